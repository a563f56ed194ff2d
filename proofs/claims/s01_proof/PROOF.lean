import PyProof.Rows.All
import Wide.All
import OpenK.AllK
import Wide.FinOn
import PyProof.EqAt
import PyProof.EqKinds
import PyProof.TupleCall
import KE.BitLaws
import Open.SpecLaws
import KE.OsHead
import KE.OsGo
import Open.Tops
import PySem.Challenge.RW_setpress_s01_answers
set_option Elab.async false
set_option linter.all false
set_option maxRecDepth 100000
set_option maxHeartbeats 0
local macro_rules | `(tactic| walk_at "c") => `(tactic| exact ⟨rfl, rfl, rfl, by decide +kernel, rfl, by decide +kernel, by decide +kernel⟩)
set_option bootstrap.genMatcherCode false
inductive Ex1_ {A0 : Type} (p : A0 → Prop) : Prop | mk (a0 : A0) (h : p a0)
inductive Ex2_ {A0 A1 : Type} (p : A0 → A1 → Prop) : Prop | mk (a0 : A0) (a1 : A1) (h : p a0 a1)
inductive Ex3_ {A0 A1 A2 : Type} (p : A0 → A1 → A2 → Prop) : Prop | mk (a0 : A0) (a1 : A1) (a2 : A2) (h : p a0 a1 a2)
inductive Ex4_ {A0 A1 A2 A3 : Type} (p : A0 → A1 → A2 → A3 → Prop) : Prop | mk (a0 : A0) (a1 : A1) (a2 : A2) (a3 : A3) (h : p a0 a1 a2 a3)
inductive Ex5_ {A0 A1 A2 A3 A4 : Type} (p : A0 → A1 → A2 → A3 → A4 → Prop) : Prop | mk (a0 : A0) (a1 : A1) (a2 : A2) (a3 : A3) (a4 : A4) (h : p a0 a1 a2 a3 a4)
inductive Ex6_ {A0 A1 A2 A3 A4 A5 : Type} (p : A0 → A1 → A2 → A3 → A4 → A5 → Prop) : Prop | mk (a0 : A0) (a1 : A1) (a2 : A2) (a3 : A3) (a4 : A4) (a5 : A5) (h : p a0 a1 a2 a3 a4 a5)
inductive Ex7_ {A0 A1 A2 A3 A4 A5 A6 : Type} (p : A0 → A1 → A2 → A3 → A4 → A5 → A6 → Prop) : Prop | mk (a0 : A0) (a1 : A1) (a2 : A2) (a3 : A3) (a4 : A4) (a5 : A5) (a6 : A6) (h : p a0 a1 a2 a3 a4 a5 a6)
inductive Ex8_ {A0 A1 A2 A3 A4 A5 A6 A7 : Type} (p : A0 → A1 → A2 → A3 → A4 → A5 → A6 → A7 → Prop) : Prop | mk (a0 : A0) (a1 : A1) (a2 : A2) (a3 : A3) (a4 : A4) (a5 : A5) (a6 : A6) (a7 : A7) (h : p a0 a1 a2 a3 a4 a5 a6 a7)
inductive Ex9_ {A0 A1 A2 A3 A4 A5 A6 A7 A8 : Type} (p : A0 → A1 → A2 → A3 → A4 → A5 → A6 → A7 → A8 → Prop) : Prop | mk (a0 : A0) (a1 : A1) (a2 : A2) (a3 : A3) (a4 : A4) (a5 : A5) (a6 : A6) (a7 : A7) (a8 : A8) (h : p a0 a1 a2 a3 a4 a5 a6 a7 a8)
inductive Ex10_ {A0 A1 A2 A3 A4 A5 A6 A7 A8 A9 : Type} (p : A0 → A1 → A2 → A3 → A4 → A5 → A6 → A7 → A8 → A9 → Prop) : Prop | mk (a0 : A0) (a1 : A1) (a2 : A2) (a3 : A3) (a4 : A4) (a5 : A5) (a6 : A6) (a7 : A7) (a8 : A8) (a9 : A9) (h : p a0 a1 a2 a3 a4 a5 a6 a7 a8 a9)
inductive Ex12_ {A0 A1 A2 A3 A4 A5 A6 A7 A8 A9 A10 A11 : Type} (p : A0 → A1 → A2 → A3 → A4 → A5 → A6 → A7 → A8 → A9 → A10 → A11 → Prop) : Prop | mk (a0 : A0) (a1 : A1) (a2 : A2) (a3 : A3) (a4 : A4) (a5 : A5) (a6 : A6) (a7 : A7) (a8 : A8) (a9 : A9) (a10 : A10) (a11 : A11) (h : p a0 a1 a2 a3 a4 a5 a6 a7 a8 a9 a10 a11)
inductive Ex16_ {A0 A1 A2 A3 A4 A5 A6 A7 A8 A9 A10 A11 A12 A13 A14 A15 : Type} (p : A0 → A1 → A2 → A3 → A4 → A5 → A6 → A7 → A8 → A9 → A10 → A11 → A12 → A13 → A14 → A15 → Prop) : Prop | mk (a0 : A0) (a1 : A1) (a2 : A2) (a3 : A3) (a4 : A4) (a5 : A5) (a6 : A6) (a7 : A7) (a8 : A8) (a9 : A9) (a10 : A10) (a11 : A11) (a12 : A12) (a13 : A13) (a14 : A14) (a15 : A15) (h : p a0 a1 a2 a3 a4 a5 a6 a7 a8 a9 a10 a11 a12 a13 a14 a15)
inductive And2_ (p0 p1 : Prop) : Prop | mk (h0 : p0) (h1 : p1)
inductive And3_ (p0 p1 p2 : Prop) : Prop | mk (h0 : p0) (h1 : p1) (h2 : p2)
inductive And4_ (p0 p1 p2 p3 : Prop) : Prop | mk (h0 : p0) (h1 : p1) (h2 : p2) (h3 : p3)
inductive And5_ (p0 p1 p2 p3 p4 : Prop) : Prop | mk (h0 : p0) (h1 : p1) (h2 : p2) (h3 : p3) (h4 : p4)
inductive And6_ (p0 p1 p2 p3 p4 p5 : Prop) : Prop | mk (h0 : p0) (h1 : p1) (h2 : p2) (h3 : p3) (h4 : p4) (h5 : p5)
inductive And7_ (p0 p1 p2 p3 p4 p5 p6 : Prop) : Prop | mk (h0 : p0) (h1 : p1) (h2 : p2) (h3 : p3) (h4 : p4) (h5 : p5) (h6 : p6)
inductive And8_ (p0 p1 p2 p3 p4 p5 p6 p7 : Prop) : Prop | mk (h0 : p0) (h1 : p1) (h2 : p2) (h3 : p3) (h4 : p4) (h5 : p5) (h6 : p6) (h7 : p7)
inductive And9_ (p0 p1 p2 p3 p4 p5 p6 p7 p8 : Prop) : Prop | mk (h0 : p0) (h1 : p1) (h2 : p2) (h3 : p3) (h4 : p4) (h5 : p5) (h6 : p6) (h7 : p7) (h8 : p8)
inductive And10_ (p0 p1 p2 p3 p4 p5 p6 p7 p8 p9 : Prop) : Prop | mk (h0 : p0) (h1 : p1) (h2 : p2) (h3 : p3) (h4 : p4) (h5 : p5) (h6 : p6) (h7 : p7) (h8 : p8) (h9 : p9)
namespace PySem.W.Fast
theorem tw5338396770232574071:True:=⟨⟩
theorem tw3900022840102643974:True:=⟨⟩
theorem tw9430710860820744596:True:=⟨⟩
theorem tw18328019969620935576:True:=⟨⟩
theorem tw6447181814845792964:True:=⟨⟩
theorem tw4993833656157040830:True:=⟨⟩
theorem tw2696709012184574223:True:=⟨⟩
theorem tw14839309143443284812:True:=⟨⟩
theorem tw6410015888717856394:True:=⟨⟩
theorem tw2683683118641231199:True:=⟨⟩
theorem tw15766835246772734871:True:=⟨⟩
theorem tw5775887155361137608:True:=⟨⟩
theorem tw10019048166737237710:True:=⟨⟩
theorem tw13477892169795548937:True:=⟨⟩
theorem tw1662410580027789875:True:=⟨⟩
theorem tw1570521591703106241:True:=⟨⟩
theorem tw14701500983594537090:True:=⟨⟩
theorem tw11138383622328158411:True:=⟨⟩
theorem tw4357832150904887721:True:=⟨⟩
theorem tw6055553987225761170:True:=⟨⟩
theorem tw10697823603737707068:True:=⟨⟩
theorem tw2759912014339780297:True:=⟨⟩
theorem tw15772490989019470725:True:=⟨⟩
theorem tw14019377035819238404:True:=⟨⟩
theorem tw17013266663067808957:True:=⟨⟩
theorem tw11786923753649264623:True:=⟨⟩
theorem tw17911609812536856016:True:=⟨⟩
theorem tw8269877096800067844:True:=⟨⟩
theorem tw1896830857001487814:True:=⟨⟩
theorem tw8155861842274067244:True:=⟨⟩
theorem tw16205097526032388265:True:=⟨⟩
theorem tw4384804689746346001:True:=⟨⟩
theorem tw3756773957064123538:True:=⟨⟩
theorem tw9228749117875907336:True:=⟨⟩
theorem tw10179932209089262553:True:=⟨⟩
theorem tw14914900566170912936:True:=⟨⟩
theorem tw7465831187604291485:True:=⟨⟩
theorem tw8610076377123254895:True:=⟨⟩
theorem tw15163521395314107845:True:=⟨⟩
theorem tw11415567446341192716:True:=⟨⟩
theorem tw1319424466980726389:True:=⟨⟩
theorem tw5546560562430004019:True:=⟨⟩
theorem tw1754936158177154641:True:=⟨⟩
theorem tw15957506978580424844:True:=⟨⟩
theorem tw13590853526252092413:True:=⟨⟩
theorem tw9977780735856495673:True:=⟨⟩
theorem tw1426039163025394814:True:=⟨⟩
theorem tw1954737033579629784:True:=⟨⟩
theorem tw4258499475166030357:True:=⟨⟩
theorem tw3130230836842983846:True:=⟨⟩
theorem tw15459126191288303610:True:=⟨⟩
theorem tw9252386709587868243:True:=⟨⟩
theorem tw10636932806721120778:True:=⟨⟩
theorem tw10109647103725766844:True:=⟨⟩
theorem tw964025291714068046:True:=⟨⟩
theorem tw3226286131572220513:True:=⟨⟩
theorem tw12384694781700364412:True:=⟨⟩
theorem tw18435894972620323579:True:=⟨⟩
theorem tw997224137280953189:True:=⟨⟩
theorem tw8070501847542969278:True:=⟨⟩
theorem tw6841201114307620336:True:=⟨⟩
theorem tw17281034017135819807:True:=⟨⟩
theorem tw7087325668119058385:True:=⟨⟩
theorem tw16052925329391691182:True:=⟨⟩
theorem tw8653984309956016162:True:=⟨⟩
theorem tw7439883640280057394:True:=⟨⟩
theorem tw3538019497977664112:True:=⟨⟩
theorem tw17320941017906573961:True:=⟨⟩
theorem tw11371428006593430020:True:=⟨⟩
theorem tw7602320758946591936:True:=⟨⟩
theorem tw7194236489510154445:True:=⟨⟩
theorem tw13460348287410352409:True:=⟨⟩
theorem tw7919678704030120392:True:=⟨⟩
theorem tw5074069062847868090:True:=⟨⟩
theorem tw13081264742047550044:True:=⟨⟩
theorem tw3723177373317537601:True:=⟨⟩
theorem tw15598745593903741727:True:=⟨⟩
theorem tw7501313016683694444:True:=⟨⟩
theorem tw557800904671392444:True:=⟨⟩
theorem tw242478626352600162:True:=⟨⟩
theorem tw12340193212181549070:True:=⟨⟩
theorem tw9531923861127612310:True:=⟨⟩
theorem tw11594446826732008288:True:=⟨⟩
theorem tw17843169904580934029:True:=⟨⟩
theorem tw9507497468520644574:True:=⟨⟩
theorem tw16447386301716905953:True:=⟨⟩
theorem tw5421079637615113093:True:=⟨⟩
theorem tw18253935942106101555:True:=⟨⟩
theorem tw1832620355775954873:True:=⟨⟩
theorem tw2820001725760277863:True:=⟨⟩
theorem tw12716775578746969098:True:=⟨⟩
theorem tw14503998300937928890:True:=⟨⟩
theorem tw3423665176513870012:True:=⟨⟩
theorem tw12884345898040493565:True:=⟨⟩
theorem tw7441907535588193731:True:=⟨⟩
theorem tw14208765605153144510:True:=⟨⟩
theorem tw6075535063484946855:True:=⟨⟩
theorem tw4741379270892838527:True:=⟨⟩
theorem tw16919948864608603538:True:=⟨⟩
theorem tw1047169307133417189:True:=⟨⟩
theorem tw12414909999554087841:True:=⟨⟩
theorem tw6215533152039126534:True:=⟨⟩
theorem tw1791923353313668367:True:=⟨⟩
theorem tw16838607783343589375:True:=⟨⟩
theorem tw2342888240321614952:True:=⟨⟩
theorem tw15382187792202659720:True:=⟨⟩
theorem tw7890293205472114854:True:=⟨⟩
theorem tw13284986261401224365:True:=⟨⟩
theorem tw16328061554116807395:True:=⟨⟩
theorem tw5307621015708992375:True:=⟨⟩
theorem tw15089149639592806085:True:=⟨⟩
theorem tw2525549545224435720:True:=⟨⟩
theorem tw12253003181905998971:True:=⟨⟩
theorem tw3863906303210793913:True:=⟨⟩
theorem tw7206778218585899309:True:=⟨⟩
theorem tw5435949670003172306:True:=⟨⟩
theorem tw4846665111970735634:True:=⟨⟩
theorem tw6060218190050778635:True:=⟨⟩
theorem tw5720408105953493389:True:=⟨⟩
theorem tw5075138786544600868:True:=⟨⟩
theorem tw12561359607057821697:True:=⟨⟩
theorem tw17360954937172739151:True:=⟨⟩
theorem tw6841963307106160608:True:=⟨⟩
theorem tw14370488679881809184:True:=⟨⟩
theorem tw3702636365320745834:True:=⟨⟩
theorem tw2420187410074616686:True:=⟨⟩
theorem tw1927804982681963218:True:=⟨⟩
theorem tw16712202820130727285:True:=⟨⟩
theorem tw8339506708182586647:True:=⟨⟩
theorem tw16675341003553534651:True:=⟨⟩
theorem tw2019043513934163942:True:=⟨⟩
theorem tw682440961313585973:True:=⟨⟩
theorem tw1969275052281309186:True:=⟨⟩
theorem tw7010526503082130429:True:=⟨⟩
theorem tw13395928122616157352:True:=⟨⟩
theorem tw2641776999433522293:True:=⟨⟩
theorem tw1406887157926730738:True:=⟨⟩
theorem tw14809745626097494037:True:=⟨⟩
theorem tw11684820928529727840:True:=⟨⟩
theorem tw8863032751403379839:True:=⟨⟩
theorem tw12879130231387382052:True:=⟨⟩
theorem tw772657874765288961:True:=⟨⟩
theorem tw16569931499038282646:True:=⟨⟩
theorem tw13218395427782074052:True:=⟨⟩
theorem tw635222193159655053:True:=⟨⟩
theorem tw13598295994346881823:True:=⟨⟩
theorem tw8995606092004679833:True:=⟨⟩
theorem tw4762493607081529614:True:=⟨⟩
theorem tw18405930110733475709:True:=⟨⟩
theorem tw942869215506676227:True:=⟨⟩
theorem tw14952572319224976287:True:=⟨⟩
theorem tw15549063411931563809:True:=⟨⟩
theorem tw11536218870955491037:True:=⟨⟩
theorem tw3127482724838381079:True:=⟨⟩
theorem tw13462262104740601851:True:=⟨⟩
theorem tw9157589350751304737:True:=⟨⟩
theorem tw8866486894286545157:True:=⟨⟩
theorem tw2772608487025113559:True:=⟨⟩
theorem tw14820718122027986871:True:=⟨⟩
theorem tw4351698689999212943:True:=⟨⟩
theorem tw18090807682035260763:True:=⟨⟩
theorem tw3933184146734922484:True:=⟨⟩
theorem tw5099782730629757621:True:=⟨⟩
theorem tw3481125642421782495:True:=⟨⟩
theorem tw11867774271635991182:True:=⟨⟩
theorem tw12910276793347104840:True:=⟨⟩
theorem tw5153339892163734260:True:=⟨⟩
theorem tw13558348420056965489:True:=⟨⟩
theorem tw11035741090231338881:True:=⟨⟩
theorem tw10729357167079503072:True:=⟨⟩
theorem tw5261130503777914796:True:=⟨⟩
theorem tw3375057460188321634:True:=⟨⟩
theorem tw11135430593145654385:True:=⟨⟩
theorem tw8206308077353077152:True:=⟨⟩
theorem tw12307263872765737386:True:=⟨⟩
theorem tw6583059497908401695:True:=⟨⟩
theorem tw14677674703312933230:True:=⟨⟩
theorem tw16762623236577580084:True:=⟨⟩
theorem tw2932835573917132828:True:=⟨⟩
theorem tw12124372697101007219:True:=⟨⟩
theorem tw4710178389734660098:True:=⟨⟩
theorem tw17635371195831389510:True:=⟨⟩
theorem tw9513884694578321976:True:=⟨⟩
theorem tw8133356010422923449:True:=⟨⟩
theorem tw8481434109733685259:True:=⟨⟩
theorem tw4090890459014202459:True:=⟨⟩
theorem tw3950208620310107622:True:=⟨⟩
theorem tw917337710372036723:True:=⟨⟩
theorem tw13426165663420723542:True:=⟨⟩
theorem tw6663884981914486566:True:=⟨⟩
theorem tw18193419165384346596:True:=⟨⟩
theorem tw18127286466306570104:True:=⟨⟩
theorem tw11047751347631091827:True:=⟨⟩
theorem tw5553697080074124688:True:=⟨⟩
theorem tw14466069117565695546:True:=⟨⟩
theorem tw12255659254239988888:True:=⟨⟩
theorem tw2721299129095634481:True:=⟨⟩
theorem tw12919030836724000111:True:=⟨⟩
theorem tw6056029131129928188:True:=⟨⟩
theorem tw7913487494982484974:True:=⟨⟩
theorem tw16621055288179733572:True:=⟨⟩
theorem tw11690546079099957906:True:=⟨⟩
theorem tw5712438867180111753:True:=⟨⟩
theorem tw18289631012114666751:True:=⟨⟩
theorem tw2660240500735174058:True:=⟨⟩
theorem tw11215009313291275738:True:=⟨⟩
theorem tw4599408916308314879:True:=⟨⟩
theorem tw6004625546920555698:True:=⟨⟩
theorem tw15666685994828894687:True:=⟨⟩
theorem tw12679218988453564108:True:=⟨⟩
theorem tw550970613757312479:True:=⟨⟩
theorem tw12792605756621036232:True:=⟨⟩
theorem tw13758886572044511055:True:=⟨⟩
theorem tw5444062622818644811:True:=⟨⟩
theorem tw4426489712453686160:True:=⟨⟩
theorem tw12114802680203865219:True:=⟨⟩
theorem tw7153372282856021588:True:=⟨⟩
theorem tw16305689355389022376:True:=⟨⟩
theorem tw6391278037306106111:True:=⟨⟩
theorem tw9617132747901357244:True:=⟨⟩
theorem tw15925265949448558729:True:=⟨⟩
theorem tw4181922629742367180:True:=⟨⟩
theorem tw18393411409448080188:True:=⟨⟩
theorem tw17052796983068791434:True:=⟨⟩
theorem tw18008403900301762646:True:=⟨⟩
theorem tw8831107261841256154:True:=⟨⟩
theorem tw3817821955130038182:True:=⟨⟩
theorem tw12544126094507759576:True:=⟨⟩
theorem tw14368022691798579641:True:=⟨⟩
theorem tw8358627711272145:True:=⟨⟩
theorem tw5532230830803253278:True:=⟨⟩
theorem tw9308976407678652887:True:=⟨⟩
theorem tw8310924538936311254:True:=⟨⟩
theorem tw12541263485161198205:True:=⟨⟩
theorem tw7060202860672180828:True:=⟨⟩
theorem tw2354034852605817712:True:=⟨⟩
theorem tw3450276488458835093:True:=⟨⟩
theorem tw6044295545083856698:True:=⟨⟩
theorem tw12273328002279823398:True:=⟨⟩
theorem tw5878826673135620721:True:=⟨⟩
theorem tw7714284404807913830:True:=⟨⟩
theorem tw8811829294995502691:True:=⟨⟩
theorem tw17539524990856458832:True:=⟨⟩
theorem tw364469574641551040:True:=⟨⟩
theorem tw4398211517120089124:True:=⟨⟩
theorem tw6725825616237840880:True:=⟨⟩
theorem tw10320752571988328849:True:=⟨⟩
theorem tw4713069534419796162:True:=⟨⟩
theorem tw9588596495954197358:True:=⟨⟩
theorem tw8884381631845321293:True:=⟨⟩
theorem tw345614751814102749:True:=⟨⟩
theorem tw12678559733846235617:True:=⟨⟩
theorem tw15920540932329065186:True:=⟨⟩
theorem tw18057817570977750915:True:=⟨⟩
theorem tw472602114130254167:True:=⟨⟩
theorem tw9825204371644591898:True:=⟨⟩
theorem tw10973713330888040641:True:=⟨⟩
theorem tw3580542493968091524:True:=⟨⟩
theorem tw10215046895910327015:True:=⟨⟩
theorem tw3959295344381382892:True:=⟨⟩
theorem tw13152590778591533176:True:=⟨⟩
theorem tw1435658892294650183:True:=⟨⟩
theorem tw1911850124083651984:True:=⟨⟩
theorem tw816412881978220404:True:=⟨⟩
theorem tw14097661504929121555:True:=⟨⟩
theorem tw8289201723033672784:True:=⟨⟩
theorem tw13051554338707416700:True:=⟨⟩
theorem tw7856366617642422951:True:=⟨⟩
theorem tw15040187060045286449:True:=⟨⟩
theorem tw1932415249604858339:True:=⟨⟩
theorem tw2016363088339311255:True:=⟨⟩
theorem tw14698416519950074807:True:=⟨⟩
theorem tw11920347305827331542:True:=⟨⟩
theorem tw13330442626456223456:True:=⟨⟩
theorem tw8730214639264383543:True:=⟨⟩
theorem tw13549170709803225205:True:=⟨⟩
theorem tw18254640258553435794:True:=⟨⟩
theorem tw6823255452266843197:True:=⟨⟩
theorem tw2488668148265196763:True:=⟨⟩
theorem tw17871783018722114982:True:=⟨⟩
theorem tw1439981396252718302:True:=⟨⟩
theorem tw14236634364658081537:True:=⟨⟩
theorem tw9929082231814192823:True:=⟨⟩
theorem tw17831479145759565942:True:=⟨⟩
theorem tw2376146251339899467:True:=⟨⟩
theorem tw14404858087532498792:True:=⟨⟩
theorem tw6591068968677951190:True:=⟨⟩
theorem tw14481191599206851054:True:=⟨⟩
theorem tw2693249061775602646:True:=⟨⟩
theorem tw12185636834206920843:True:=⟨⟩
theorem tw8799843197480935225:True:=⟨⟩
theorem tw15690082421701309362:True:=⟨⟩
theorem tw16491373875333170620:True:=⟨⟩
theorem tw3323336000576858892:True:=⟨⟩
theorem tw10502333760148425580:True:=⟨⟩
theorem tw7471782390009903681:True:=⟨⟩
theorem tw6534638269923451698:True:=⟨⟩
theorem tw17290972964042678537:True:=⟨⟩
theorem tw18023315080647246177:True:=⟨⟩
theorem tw15673245096592354141:True:=⟨⟩
theorem tw1303893904164580214:True:=⟨⟩
theorem tw11616818752273162345:True:=⟨⟩
theorem tw10722587654191758031:True:=⟨⟩
theorem tw7171795642936334445:True:=⟨⟩
theorem tw17868243287415312093:True:=⟨⟩
theorem tw5423673438373497237:True:=⟨⟩
theorem tw15671616451417279977:True:=⟨⟩
theorem tw4462982360607491994:True:=⟨⟩
theorem tw11070629219782796279:True:=⟨⟩
theorem tw11230721723131433943:True:=⟨⟩
theorem tw2585813346120073505:True:=⟨⟩
theorem tw7250266115057885554:True:=⟨⟩
theorem tw4098889890243815929:True:=⟨⟩
theorem tw14215123122354833209:True:=⟨⟩
theorem tw8167933767058860124:True:=⟨⟩
theorem tw9949440491145687473:True:=⟨⟩
theorem tw1692130697449344493:True:=⟨⟩
theorem tw8086150835256151911:True:=⟨⟩
theorem tw8231816844342502952:True:=⟨⟩
theorem tw4478221943781944084:True:=⟨⟩
theorem tw11408032075819563114:True:=⟨⟩
theorem tw13313753650422072780:True:=⟨⟩
theorem tw8527514369018007257:True:=⟨⟩
theorem tw16280994126405255005:True:=⟨⟩
theorem tw1275438384871646307:True:=⟨⟩
theorem tw9573448417746933505:True:=⟨⟩
theorem tw12086055875710105966:True:=⟨⟩
theorem tw5789531465213741093:True:=⟨⟩
theorem tw11164126175202148545:True:=⟨⟩
theorem tw1916129475366820216:True:=⟨⟩
theorem tw7763899285281672527:True:=⟨⟩
theorem tw5311949027486367893:True:=⟨⟩
theorem tw14373597996661344341:True:=⟨⟩
theorem tw6706361632801048743:True:=⟨⟩
theorem tw14195979810670126923:True:=⟨⟩
theorem tw12535168219514665516:True:=⟨⟩
theorem tw6881704362152558297:True:=⟨⟩
theorem tw4600893715883540127:True:=⟨⟩
theorem tw15663630889631930456:True:=⟨⟩
theorem tw6952005599824648004:True:=⟨⟩
theorem tw11299500888830994319:True:=⟨⟩
theorem tw15672374552946108175:True:=⟨⟩
theorem tw2154145614821177048:True:=⟨⟩
theorem tw12270565483142773553:True:=⟨⟩
theorem tw8179984010025559478:True:=⟨⟩
theorem tw7627212981247519944:True:=⟨⟩
theorem tw5723976231109452406:True:=⟨⟩
theorem tw18208548051911198538:True:=⟨⟩
theorem tw13839079010758941282:True:=⟨⟩
theorem tw18272578698108203428:True:=⟨⟩
theorem tw6568488023317353995:True:=⟨⟩
theorem tw3981664305713050090:True:=⟨⟩
theorem tw529854329468910250:True:=⟨⟩
theorem tw5899196017250092262:True:=⟨⟩
theorem tw16701378434368947881:True:=⟨⟩
theorem tw15900320810049575337:True:=⟨⟩
theorem tw11199050923389281160:True:=⟨⟩
theorem tw13861638413835968133:True:=⟨⟩
theorem tw5732601891569811610:True:=⟨⟩
theorem tw6749842548173117320:True:=⟨⟩
theorem tw11521242049146232390:True:=⟨⟩
theorem tw3512349219367216684:True:=⟨⟩
theorem tw3479252073681782265:True:=⟨⟩
theorem tw8796100428091466779:True:=⟨⟩
theorem tw6934088958044369265:True:=⟨⟩
theorem tw9855546673499806938:True:=⟨⟩
theorem tw12752150830553017451:True:=⟨⟩
theorem tw9774171697980739067:True:=⟨⟩
theorem tw1773169158880882427:True:=⟨⟩
theorem tw12511479064813894742:True:=⟨⟩
theorem tw12967348301036314611:True:=⟨⟩
theorem tw11183548262532885067:True:=⟨⟩
theorem tw12651480319358766588:True:=⟨⟩
theorem tw15635021653711906561:True:=⟨⟩
theorem tw8462681007095224893:True:=⟨⟩
theorem tw11584437843894268061:True:=⟨⟩
theorem tw2982073985316677885:True:=⟨⟩
theorem tw12991364490781070965:True:=⟨⟩
theorem tw2258593686898844636:True:=⟨⟩
theorem tw7463806764515090297:True:=⟨⟩
theorem tw5849149631420937180:True:=⟨⟩
theorem tw17732300699792209884:True:=⟨⟩
theorem tw103882420914111513:True:=⟨⟩
theorem tw11674666907471650257:True:=⟨⟩
theorem tw702434908443484134:True:=⟨⟩
theorem tw1541844247297520286:True:=⟨⟩
theorem tw13781860696532641876:True:=⟨⟩
theorem tw13277521807035383343:True:=⟨⟩
theorem tw6773530256975149701:True:=⟨⟩
theorem tw9010099809741596245:True:=⟨⟩
theorem tw2678024054365153734:True:=⟨⟩
theorem tw9858048579355860168:True:=⟨⟩
theorem tw14901276094066464836:True:=⟨⟩
theorem tw2121349194463633830:True:=⟨⟩
theorem tw17449641897893137788:True:=⟨⟩
theorem tw8073348059362966656:True:=⟨⟩
theorem tw8954937720878738642:True:=⟨⟩
theorem tw6640562318882502786:True:=⟨⟩
theorem tw13886701811110005027:True:=⟨⟩
theorem tw8231027407842749250:True:=⟨⟩
theorem tw10444024752661012937:True:=⟨⟩
theorem tw15110016688105263360:True:=⟨⟩
theorem tw4698872473200378980:True:=⟨⟩
theorem tw15408855724385353760:True:=⟨⟩
theorem tw9408222747589952149:True:=⟨⟩
theorem tw5425981583747230298:True:=⟨⟩
theorem tw6031122854090520158:True:=⟨⟩
theorem tw10674909896736814064:True:=⟨⟩
theorem tw15408887054200226025:True:=⟨⟩
theorem tw9487836372720062715:True:=⟨⟩
theorem tw9280559720540160438:True:=⟨⟩
theorem tw992578291410507126:True:=⟨⟩
theorem tw13388329295594954441:True:=⟨⟩
theorem tw8251602390916239078:True:=⟨⟩
theorem tw3561388382310677142:True:=⟨⟩
theorem tw12267645336050823156:True:=⟨⟩
theorem tw9434762971998094690:True:=⟨⟩
theorem tw17258161852213530925:True:=⟨⟩
theorem tw16357710459693451616:True:=⟨⟩
theorem tw12021309773596684918:True:=⟨⟩
theorem tw14352405326576224817:True:=⟨⟩
theorem tw8154386272651081202:True:=⟨⟩
theorem tw13484413069630305440:True:=⟨⟩
theorem tw5064875532240029374:True:=⟨⟩
theorem tw11364337024742858680:True:=⟨⟩
theorem tw14139705462525784017:True:=⟨⟩
theorem tw3197926211137439979:True:=⟨⟩
theorem tw1804395761182957646:True:=⟨⟩
theorem tw5201439970778346952:True:=⟨⟩
theorem tw6635356975490421724:True:=⟨⟩
theorem tw15449629156236113012:True:=⟨⟩
theorem tw4965868089462060063:True:=⟨⟩
theorem tw15698690082600969019:True:=⟨⟩
theorem tw8831346728554376552:True:=⟨⟩
theorem tw12646201633312866470:True:=⟨⟩
theorem tw6152071860249167435:True:=⟨⟩
theorem tw12863423857544739882:True:=⟨⟩
theorem tw16571092839454270792:True:=⟨⟩
theorem tw4858342798584191801:True:=⟨⟩
theorem tw3352996709335487206:True:=⟨⟩
theorem tw10619459019615730042:True:=⟨⟩
theorem tw5427752009003261149:True:=⟨⟩
theorem tw680058372725772241:True:=⟨⟩
theorem tw15662631657644082128:True:=⟨⟩
theorem tw1164921257190385768:True:=⟨⟩
theorem tw13656641336819677139:True:=⟨⟩
theorem tw13401354008174147642:True:=⟨⟩
theorem tw8160981933453840555:True:=⟨⟩
theorem tw7541085803411327407:True:=⟨⟩
theorem tw12703518704471188779:True:=⟨⟩
theorem tw10625121284533075740:True:=⟨⟩
theorem tw5135736572065235579:True:=⟨⟩
theorem tw12518813263008794328:True:=⟨⟩
theorem tw3831817799466036911:True:=⟨⟩
theorem tw15104624696282731153:True:=⟨⟩
theorem tw6441725991987630624:True:=⟨⟩
theorem tw15575086064796214663:True:=⟨⟩
theorem tw11078359832463643296:True:=⟨⟩
theorem tw9660912392891133213:True:=⟨⟩
theorem tw2421380606649744575:True:=⟨⟩
theorem tw4147172054237745600:True:=⟨⟩
theorem tw7993358469165024741:True:=⟨⟩
theorem tw15535141418324576845:True:=⟨⟩
theorem tw1474243260737092745:True:=⟨⟩
theorem tw5535123962138349785:True:=⟨⟩
theorem tw10405599694063812739:True:=⟨⟩
theorem tw8229999116681756232:True:=⟨⟩
theorem tw6225532646710409926:True:=⟨⟩
theorem tw9437125512719922277:True:=⟨⟩
theorem tw1028674323301138617:True:=⟨⟩
theorem tw5398983549539484722:True:=⟨⟩
theorem tw3861606038893987337:True:=⟨⟩
theorem tw7991381263852058442:True:=⟨⟩
theorem tw13343983028027684475:True:=⟨⟩
theorem tw2778617374505699503:True:=⟨⟩
theorem tw10267624684649909220:True:=⟨⟩
theorem tw1703398147701914194:True:=⟨⟩
theorem tw9534376928585669338:True:=⟨⟩
theorem tw5522736162312235153:True:=⟨⟩
theorem tw10363861559899566648:True:=⟨⟩
theorem tw5383940708330879871:True:=⟨⟩
theorem tw13597934890418969952:True:=⟨⟩
theorem tw9581593926909855932:True:=⟨⟩
theorem tw6414095585446062615:True:=⟨⟩
theorem tw6435011190466058563:True:=⟨⟩
theorem tw12994980737285001976:True:=⟨⟩
theorem tw7176615548978978305:True:=⟨⟩
theorem tw8199544070925167628:True:=⟨⟩
theorem tw17777448705439763082:True:=⟨⟩
theorem tw11771786638190741503:True:=⟨⟩
theorem tw2467528430711677637:True:=⟨⟩
theorem tw9735821931208282710:True:=⟨⟩
theorem tw10959502279142616385:True:=⟨⟩
theorem tw6221288335226394357:True:=⟨⟩
theorem tw15184719589391248835:True:=⟨⟩
theorem tw3687594823114701914:True:=⟨⟩
theorem tw7238199903790224975:True:=⟨⟩
theorem tw5858000700953837608:True:=⟨⟩
theorem tw524048258799688333:True:=⟨⟩
theorem tw6021518616687916795:True:=⟨⟩
theorem tw16370947409574807644:True:=⟨⟩
theorem tw13112545718370287331:True:=⟨⟩
theorem tw15896862632160443935:True:=⟨⟩
theorem tw7601485478738791909:True:=⟨⟩
theorem tw1696016485885049137:True:=⟨⟩
theorem tw18135836161813606872:True:=⟨⟩
theorem tw11255260828243188526:True:=⟨⟩
theorem tw2211392441463003465:True:=⟨⟩
theorem tw10116655897132095901:True:=⟨⟩
theorem tw15384071598392026425:True:=⟨⟩
theorem tw3212918311393277687:True:=⟨⟩
theorem tw13289688069668668681:True:=⟨⟩
theorem tw10996526213340549019:True:=⟨⟩
theorem tw2791225963907702458:True:=⟨⟩
theorem tw9955913986758740559:True:=⟨⟩
theorem tw17688860007147443142:True:=⟨⟩
theorem tw3973855673088287084:True:=⟨⟩
theorem tw14168097292776707022:True:=⟨⟩
theorem tw17651009731352378086:True:=⟨⟩
theorem tw14156178658299049237:True:=⟨⟩
theorem tw7361900209261787336:True:=⟨⟩
theorem tw4062561085211183239:True:=⟨⟩
theorem tw13342077861458292948:True:=⟨⟩
theorem tw5102564316427039747:True:=⟨⟩
theorem tw2184249255590281158:True:=⟨⟩
theorem tw16466447370094147014:True:=⟨⟩
theorem tw15366722540902073359:True:=⟨⟩
theorem tw1495973284965917952:True:=⟨⟩
theorem tw10407878547908496803:True:=⟨⟩
theorem tw15065961505262895010:True:=⟨⟩
theorem tw5130573120629034886:True:=⟨⟩
theorem tw10536315786308224165:True:=⟨⟩
theorem tw11264357567346939185:True:=⟨⟩
theorem tw10773560197866110006:True:=⟨⟩
theorem tw2219824416027681282:True:=⟨⟩
theorem tw11281166094575822959:True:=⟨⟩
theorem tw16122719051663199940:True:=⟨⟩
theorem tw13354989398945762970:True:=⟨⟩
theorem tw16894146059907710441:True:=⟨⟩
theorem tw12772585543002508241:True:=⟨⟩
theorem tw12107526965478557161:True:=⟨⟩
theorem tw13280436945506912963:True:=⟨⟩
theorem tw502495836982246989:True:=⟨⟩
theorem tw17001882099196446411:True:=⟨⟩
theorem tw14153967976283286783:True:=⟨⟩
theorem tw1908698471277343794:True:=⟨⟩
theorem tw5121324893827464432:True:=⟨⟩
theorem tw5923337977515078716:True:=⟨⟩
theorem tw14212290332656510764:True:=⟨⟩
theorem tw2321890973721436353:True:=⟨⟩
theorem tw12091437448135607708:True:=⟨⟩
theorem tw12549439521719691834:True:=⟨⟩
theorem tw4520251332391347864:True:=⟨⟩
theorem tw2126626906519902842:True:=⟨⟩
theorem tw1011886094808034365:True:=⟨⟩
theorem tw3065183089253288475:True:=⟨⟩
theorem tw14188994159716540630:True:=⟨⟩
theorem tw7394711482365575798:True:=⟨⟩
theorem tw9261912173675001780:True:=⟨⟩
theorem tw3911240729315104563:True:=⟨⟩
theorem tw8600396462605569934:True:=⟨⟩
theorem tw11314678246958923041:True:=⟨⟩
theorem tw5393993317531125005:True:=⟨⟩
theorem tw12568553590447402063:True:=⟨⟩
theorem tw17832646336276477855:True:=⟨⟩
theorem tw6562163041563323974:True:=⟨⟩
theorem tw4432696882315497185:True:=⟨⟩
theorem tw9308608315076516067:True:=⟨⟩
theorem tw14843347528962581828:True:=⟨⟩
theorem tw5814548082606291424:True:=⟨⟩
theorem tw2363476461658947551:True:=⟨⟩
theorem tw3757273602488508377:True:=⟨⟩
theorem tw909209579666521076:True:=⟨⟩
theorem tw7583253911553056191:True:=⟨⟩
theorem tw13715859635340528996:True:=⟨⟩
theorem tw309385545636862894:True:=⟨⟩
theorem tw4304239475801117149:True:=⟨⟩
theorem tw3040603241819733037:True:=⟨⟩
theorem tw17462214875643844242:True:=⟨⟩
theorem tw898566935150124003:True:=⟨⟩
theorem tw11433929975891882672:True:=⟨⟩
theorem tw10418048365930485521:True:=⟨⟩
theorem tw11962372772110091754:True:=⟨⟩
theorem tw3315807339538290543:True:=⟨⟩
theorem tw4125366037688262095:True:=⟨⟩
theorem tw12585168246023265348:True:=⟨⟩
theorem tw12854131776258026056:True:=⟨⟩
theorem tw14733206643531474862:True:=⟨⟩
theorem tw10903336093356984243:True:=⟨⟩
theorem tw5245458672508240684:True:=⟨⟩
theorem tw1492534315095241964:True:=⟨⟩
theorem tw9497405924168858852:True:=⟨⟩
theorem tw2504313450237132770:True:=⟨⟩
theorem tw2313230640293770673:True:=⟨⟩
theorem tw8037144080647753475:True:=⟨⟩
theorem tw1845818362578280308:True:=⟨⟩
theorem tw11830953610265975627:True:=⟨⟩
theorem tw5274323582478993231:True:=⟨⟩
theorem tw4474616014057159464:True:=⟨⟩
theorem tw13320229121842498971:True:=⟨⟩
theorem tw14424664884365116097:True:=⟨⟩
theorem tw7827199926834777277:True:=⟨⟩
theorem tw10344600693680649153:True:=⟨⟩
theorem tw1583082192504555227:True:=⟨⟩
theorem tw14835577465991547960:True:=⟨⟩
theorem tw1140207687960164541:True:=⟨⟩
theorem tw5226688397888932757:True:=⟨⟩
theorem tw15382510762436192212:True:=⟨⟩
theorem tw7757829612694936006:True:=⟨⟩
theorem tw2432359130636177099:True:=⟨⟩
theorem tw2913251735764065844:True:=⟨⟩
theorem tw6701432391914766563:True:=⟨⟩
theorem tw17199159853307523207:True:=⟨⟩
theorem tw15097151832389050100:True:=⟨⟩
theorem tw15603082487305424121:True:=⟨⟩
theorem tw2389306842031884723:True:=⟨⟩
theorem tw3553067781159141254:True:=⟨⟩
theorem tw2868153501197021702:True:=⟨⟩
theorem tw15982107626169768877:True:=⟨⟩
theorem tw2611873140177220868:True:=⟨⟩
theorem tw13195202737579115229:True:=⟨⟩
theorem tw3344264856214762453:True:=⟨⟩
theorem tw5742238672392831559:True:=⟨⟩
theorem tw9197304658949117301:True:=⟨⟩
theorem tw8759779739261265001:True:=⟨⟩
theorem tw3019469949455086360:True:=⟨⟩
theorem tw4635823014501852462:True:=⟨⟩
theorem tw3797300690974233934:True:=⟨⟩
theorem tw2569938227732572035:True:=⟨⟩
theorem tw3183708336635060570:True:=⟨⟩
theorem tw16080738308621765907:True:=⟨⟩
theorem tw11858344913863802276:True:=⟨⟩
theorem tw3914406624783610863:True:=⟨⟩
theorem tw11766006601110418814:True:=⟨⟩
theorem tw9975440970417669999:True:=⟨⟩
theorem tw10441242611306285572:True:=⟨⟩
theorem tw5120911708596212068:True:=⟨⟩
theorem tw15048338034750435528:True:=⟨⟩
theorem tw13434053614691055782:True:=⟨⟩
theorem tw11894804310768051324:True:=⟨⟩
theorem tw14511448695305008439:True:=⟨⟩
theorem tw4944619957281068203:True:=⟨⟩
theorem tw11314527338411894176:True:=⟨⟩
theorem tw16255528225217334740:True:=⟨⟩
theorem tw16422885669886887605:True:=⟨⟩
theorem tw15799321467563590335:True:=⟨⟩
theorem tw2185855203694285743:True:=⟨⟩
theorem tw15668162899394828875:True:=⟨⟩
theorem tw9716621485308279651:True:=⟨⟩
theorem tw10717283139417537689:True:=⟨⟩
theorem tw10884504835522081619:True:=⟨⟩
theorem tw15621976337650108401:True:=⟨⟩
theorem tw4740779726407543000:True:=⟨⟩
theorem tw3013017930218729373:True:=⟨⟩
theorem tw94312369156794807:True:=⟨⟩
theorem tw11446110343686128798:True:=⟨⟩
theorem tw1791285225760201387:True:=⟨⟩
theorem tw4811901259312654301:True:=⟨⟩
theorem tw8440458137534088382:True:=⟨⟩
theorem tw16016550133085892538:True:=⟨⟩
theorem tw2011555492112828246:True:=⟨⟩
end PySem.W.Fast
theorem Pr.k1 : PySem.Challenge.rw_setpress_s01_answers.wellSaid = true := by decide +kernel
open_shared Tp for PySem.Challenge.pw_setpress_s01_answers leaving 0
section
namespace L2
open PySem PySem.Spec PyProof.Rows
noncomputable abbrev Key:=Sum Int Str
noncomputable def aGq:Key->Value->Bool
 | .inl k,v=>Value.isInt k v
 | .inr x,v=>Value.isStrOf x v
noncomputable def bEl (w:World):Key->Int
 | .inl k=>hashInt k
 | .inr x=>hashStr w x
theorem jV: ∀{k:Key}{v:Value},aGq k v=true->(∃i t,k=Sum.inl i/\v=Value.int i t)\/(∃x t,k=Sum.inr x/\v=Value.str x t)
 | .inl i,v,h=>by
  obtain⟨t,e⟩:=Value.isInt_shape (k:=i) (v:=v) h
  exact .inl ⟨i,t,rfl,e⟩
 | .inr x,v,h=>by
  obtain⟨t,e⟩:=Value.isStrOf_shape (x:=x) (v:=v) h
  exact .inr ⟨x,t,rfl,e⟩
theorem aRr (i:Int)(t:Tok):aGq (.inl i) (.int i t)=true:=by simp[aGq,Value.isInt]
theorem aRs (x:Str)(t:Tok):aGq (.inr x) (.str x t)=true:=by simp[aGq,Value.isStrOf]
theorem aZz (a b:Int):decide ((Sum.inl a:Key)=Sum.inl b)=(a==b):=by
 by_cases e:a=b
 .subst e;simp
 .have h: ¬(Sum.inl a:Key)=Sum.inl b:=fun q=>e (Sum.inl.inj q)
  rw[decide_eq_false h]
  exact(beq_eq_false_iff_ne.mpr e).symm
theorem bA0 (a b:Str):decide ((Sum.inr a:Key)=Sum.inr b)=decide (a=b):=by
 by_cases e:a=b
 .subst e;simp
 .have h: ¬(Sum.inr a:Key)=Sum.inr b:=fun q=>e (Sum.inr.inj q)
  rw[decide_eq_false h,decide_eq_false e]
theorem bA1 (a:Int)(b:Str):decide ((Sum.inl a:Key)=Sum.inr b)=false:=decide_eq_false (fun q=>nomatch q)
theorem bA2 (a:Str)(b:Int):decide ((Sum.inr a:Key)=Sum.inl b)=false:=decide_eq_false (fun q=>nomatch q)
noncomputable def lD (prog:Program)(w:World):PySem.KeyKind prog w Key where
 is:=aGq
 hash:=bEl w
 inj:=fun v a b ha hb=>by
  rcases jV ha with ⟨i,t,rfl,rfl⟩|⟨x,t,rfl,rfl⟩
  .rcases jV hb with ⟨j,u,rfl,e⟩|⟨y,u,rfl,e⟩
   .injection e with e1 _;rw[e1]
   .exact nomatch e
  .rcases jV hb with ⟨j,u,rfl,e⟩|⟨y,u,rfl,e⟩
   .exact nomatch e
   .injection e with e1 _;rw[e1]
 byValue:=fun k v h=>by
  rcases jV h with ⟨i,t,rfl,rfl⟩|⟨x,t,rfl,rfl⟩ <;>rfl
 pyHash:=fun hv h=>by
  rcases jV hv with ⟨i,t,rfl,rfl⟩|⟨x,t,rfl,rfl⟩
  .exact wpAny_pyHash_int h
  .exact wpAny_pyHash_str h
 eqBool:=fun hu hv h=>by
  rcases jV hu with ⟨i,t,rfl,rfl⟩|⟨x,t,rfl,rfl⟩
  .rcases jV hv with ⟨j,u,rfl,rfl⟩|⟨y,u,rfl,rfl⟩
   .rw[aZz] at h;exact wpAny_eqBool_int h
   .rw[bA1] at h;exact SeqAt.EqAt.int_str i t y u _ _ _ _ h
  .rcases jV hv with ⟨j,u,rfl,rfl⟩|⟨y,u,rfl,rfl⟩
   .rw[bA2] at h;exact SeqAt.EqAt.str_int x t j u _ _ _ _ h
   .rw[bA0] at h;exact wpAny_eqBool_str h
 «strs» :=fun k x t v h=>by
  rcases jV h with ⟨i,u,rfl,e⟩|⟨y,u,rfl,e⟩
  .exact nomatch e
  .injection e with e1 _
   subst e1
   cases v <;>rfl
theorem aL9 (prog:Program)(w:World)(i:Int)(t:Tok):(lD prog w).is (.inl i) (.int i t)=true:=aRr i t
theorem aLa (prog:Program)(w:World)(x:Str)(t:Tok):(lD prog w).is (.inr x) (.str x t)=true:=aRs x t
end L2
namespace L2
open PySem PySem.Spec PyProof.Rows
inductive V where
 |non|bl (b:Bool)|int (i:Int)|str (x:Str)|byt (b:Array UInt8)|flt (b:UInt64)|ref (a:Addr)|ty (n:String)
 deriving DecidableEq
noncomputable def RelV:V->Value->Prop
 | .non,u=>u=Value.none
 | .bl b,u=>u=Value.bool b
 | .int i,u=> ∃t,u=Value.int i t
 | .str x,u=> ∃t,u=Value.str x t
 | .byt b,u=> ∃t,u=Value.bytes b t
 | .flt b,u=> ∃t,u=Value.float b t
 | .ref a,u=>u=Value.ref a
 | .ty n,u=>u=Value.type n
noncomputable abbrev Vals:List V->List Value->Prop:=Paired RelV
theorem Vals.length {xs:List V}{us:List Value}(r:Vals xs us):xs.length=us.length:=Paired.length r
theorem Vals.get: ∀{xs:List V}{us:List Value}{i:Nat}{x:V},Vals xs us->xs[i]?=some x-> ∃u,us[i]?=some u/\RelV x u
 |_,_,_,_,.nil,e=>by simp at e
 |_,_,0,_,.cons r _,e=>by simp at e;subst e;exact⟨_,rfl,r⟩
 |_,_,i+1,x,.cons _ t,e=>by
  obtain⟨u,h1,h2⟩:=Vals.get (i:=i) (x:=x) t (by simpa using e)
  exact⟨u,by simpa using h1,h2⟩
theorem Vals.set {x:V}{u:Value}(r:RelV x u): ∀{xs:List V}{us:List Value}(i:Nat),Vals xs us->Vals (xs.set i x) (us.set i u)
 |_,_,_,.nil=> .nil
 |_,_,0,.cons _ t=> .cons r t
 |_,_,i+1,.cons q t=> .cons q (Vals.set r i t)
theorem Vals.append: ∀{xs ys:List V}{us ws:List Value},Vals xs us->Vals ys ws->Vals (xs++ys) (us++ws)
 |_,_,_,_,.nil,s=>s
 |_,_,_,_,.cons r t,s=> .cons r (Vals.append t s)
theorem Vals.take: ∀{xs:List V}{us:List Value}(n:Nat),Vals xs us->Vals (xs.take n) (us.take n)
 |_,_,0,_=> .nil
 |_,_,_+1,.nil=> .nil
 |_,_,n+1,.cons r t=> .cons r (Vals.take n t)
theorem Vals.drop: ∀{xs:List V}{us:List Value}(n:Nat),Vals xs us->Vals (xs.drop n) (us.drop n)
 |_,_,0,r=>r
 |_,_,_+1,.nil=> .nil
 |_,_,n+1,.cons _ t=>Vals.drop n t
noncomputable def RZ:Option V->Option Value->Prop
 |some v,some u=>RelV v u
 |none,none=>True
 |_,_=>False
noncomputable def KV {κ:Type}:List (κ×V)->List (κ×Value)->Prop:=Paired fun(p:κ×V)(q:κ×Value)=>p.1=q.1/\RelV p.2 q.2
noncomputable def kV:Key->V
 | .inl i=> .int i
 | .inr x=> .str x
inductive HO where
 |lst (xs:List V)
 |tup (xs:List V)
 |dK (kvs:List (Key×V))|dT (kvs:List (List Key×V))
 |set (S:Int->Bool) (n:Nat)
 |ins (C dx:Addr) (fs:List (Str×V))
 |own (x:Addr)
 |xd (fs:List (Str×V))
 |met (f x:Addr)
 |rng (lo hi:Int)
 |frz (o:Obj) (u:HO)
 |tbl (ps:Array Value)
 |ext (φ:Heap->Prop)
noncomputable abbrev Hp:=Addr->Option HO
noncomputable def upd (H:Hp)(a:Addr)(o:HO):Hp:=fun b=>if b=a then some o else H b
theorem aH {H:Hp}{a:Addr}{o:HO}:upd H a o a=some o:=by unfold upd;rw[if_pos rfl]
theorem aM {H:Hp}{a b:Addr}{o:HO}(h:b≠a):upd H a o b=H b:=by unfold upd;rw[if_neg h]
theorem gD {H:Hp}{a:Addr}{o u:HO}:upd (upd H a o) a u=upd H a u:=by
 funext b;unfold upd;split <;>rfl
theorem jO {H:Hp}{a b:Addr}{o u:HO}(h:H a=some o)(h':H b=some u)(d:o≠u):a≠b:=by
 intro e;subst e;rw[h] at h';exact d (Option.some.inj h')
theorem aX {H:Hp}{a b:Addr}{o:HO}(h:H a=some o)(h':H b=none):a≠b:=by
 intro e;subst e;rw[h] at h';cases h'
section
variable(P:Program)(w:World)
noncomputable def lJ (H:Hp)(h:Heap)(a:Addr):HO->Prop
 | .lst xs=>xs.length<=sizeLine/\ ∃(its:List Value)(n:Nat),Vals xs its/\h.get? a=some {cls:= .type "list",data:= .seq its.toArray n}
 | .tup xs=>xs.length<=sizeLine/\ ∃its:List Value,Vals xs its/\IsTup h a its.toArray
 | .dK kvs=>kvs.length<=sizeLine/\(a==sysModules)=false/\ ∃vs,KV kvs vs/\h.DictOf (lD P w) a vs
 | .dT kvs=>kvs.length<=sizeLine/\(a==sysModules)=false/\ ∃xs:List (List Key×Addr×Value),
   Paired (fun(p:List Key×V)(q:List Key×Addr×Value)=>p.1=q.1/\H q.2.1=some (.tup (p.1.map kV))/\RelV p.2 q.2.2) kvs xs/\
   ∃o es ep,h.get? a=some o/\o.ExactDict/\o.data= .dict es ep/\es.toList=xs.map (entryOfKey (tupleKind (lD P w)))/\(xs.map (·.1)).Nodup
 | .set S n=>h.SetOf (intKind P w) a S n
 | .ins C dx fs=>H dx=some (.own a)/\fs.length<=1000/\dx≠a/\h.get? a=some (PySem.W.instObj C dx)/\
   ∃mA,h.Ns1 dx mA/\(∀f,RZ (fs.lookup f) (mA f))/\PySem.Within mA (fs.map (·.1))
 | .own _=> ∃o,h.get? a=some o
 | .xd fs=> ∃mA,h.Ns1 a mA/\ ∀f,RZ (fs.lookup f) (mA f)
 | .rng lo hi=> ∃t u v,h.get? a=some {cls:= .type "range",data:= .fields #[.int lo t,.int hi u,.int 1 v]}
 | .frz o u=>h.get? a=some o/\lJ H h a u
 | .tbl ps=>h.get? a=some {cls:= .none,data:= .fields ps}
 | .met f x=>h.get? a=some (PySem.W.methodObj (.ref f) (.ref x))
 | .ext φ=>φ h/\(∃o,h.get? a=some o)/\ ∀h1 h2:Heap,φ h1->(∀o,h1.get? a=some o->h2.get? a=some o)->φ h2
noncomputable def HOk (H:Hp)(h:Heap):Prop:= ∀a o,H a=some o->lJ P w H h a o
end
section
variable{P:Program}{w:World}{H H':Hp}{h h':Heap}{a:Addr}{o:HO}
theorem lJ.lt (x:lJ P w H h a o):a<h.objs.size:=by
 cases o with
 |lst xs=>obtain⟨_,_,_,_,e⟩:=x;exact Heap.lt_size e
 |tup xs=>obtain⟨_,_,_,p⟩:=x;exact p.lt
 |dK kvs=>obtain⟨_,_,_,_,o,_,_,e,_⟩:=x;exact Heap.lt_size e
 |dT kvs=>obtain⟨_,_,_,_,o,_,_,e,_⟩:=x;exact Heap.lt_size e
 |set S n=>obtain⟨o,_,_,_,e,_⟩:=x;exact Heap.lt_size e
 |ins C dx fs=>obtain⟨_,_,_,e,_⟩:=x;exact Heap.lt_size e
 |own y=>obtain⟨_,e⟩:=x;exact Heap.lt_size e
 |xd fs=>obtain⟨_,⟨_,_,_,e,_⟩,_⟩:=x;exact Heap.lt_size e
 |rng lo hi=>obtain⟨_,_,_,e⟩:=x;exact Heap.lt_size e
 |frz ob u=>obtain⟨e,_⟩:=x;exact Heap.lt_size e
 |tbl ps=>exact Heap.lt_size (show h.get? a=some _ from x)
 |met f y=>exact Heap.lt_size (show h.get? a=some _ from x)
 |ext φ=>obtain⟨_,⟨_,e⟩,_⟩:=x;exact Heap.lt_size e
theorem Paired.aTn {α β:Type}{F G:α->β->Prop}: ∀{l₁:List α}{l₂:List β},Paired F l₁ l₂->(∀a b,F a b->G a b)->Paired G l₁ l₂
 |_,_,.nil,_=> .nil
 |_,_,.cons r t,f=> .cons (f _ _ r) (Paired.aTn t f)
theorem lJ.stay (x:lJ P w H h a o)(k: ∀b u,(b=a\/H b=some (.own a))->h.get? b=some u->h'.get? b=some u)
  (ho: ∀b,H b=some (.own a)->H' b=some (.own a)) (ht: ∀b xs,H b=some (.tup xs)->H' b=some (.tup xs)):lJ P w H' h' a o:=by
 induction o with
 |lst xs=>obtain⟨z,its,n,r,e⟩:=x;exact⟨z,its,n,r,k _ _ (.inl rfl) e⟩
 |tup xs=>obtain⟨z,its,r,ob,e,c⟩:=x;exact⟨z,its,r,ob,k _ _ (.inl rfl) e,c⟩
 |dK kvs=>obtain⟨z,y,vs,r,ob,es,ep,e,c⟩:=x;exact⟨z,y,vs,r,ob,es,ep,k _ _ (.inl rfl) e,c⟩
 |dT kvs=>
  obtain⟨z,y,xs,r,ob,es,ep,e,c⟩:=x
  exact⟨z,y,xs,Paired.aTn r fun p q z=>⟨z.1,ht _ _ z.2.1,z.2.2⟩,ob,es,ep,k _ _ (.inl rfl) e,c⟩
 |set S n=>obtain⟨ob,es,ep,t,e,c⟩:=x;exact⟨ob,es,ep,t,k _ _ (.inl rfl) e,c⟩
 |ins C dx fs=>
  obtain⟨d,z,ne,e,mA,⟨od,es,ep,e2,c⟩,r⟩:=x
  exact⟨ho _ d,z,ne,k _ _ (.inl rfl) e,mA,⟨od,es,ep,k _ _ (.inr d) e2,c⟩,r⟩
 |own y=>obtain⟨ob,e⟩:=x;exact⟨ob,k _ _ (.inl rfl) e⟩
 |xd fs=>obtain⟨mA,⟨od,es,ep,e,c⟩,r⟩:=x;exact⟨mA,⟨od,es,ep,k _ _ (.inl rfl) e,c⟩,r⟩
 |rng lo hi=>obtain⟨t,u,v,e⟩:=x;exact⟨t,u,v,k _ _ (.inl rfl) e⟩
 |frz ob u ih=>obtain⟨e,q⟩:=x;exact⟨k _ _ (.inl rfl) e,ih q⟩
 |tbl ps=>
  have e:h.get? a=some {cls:= .none,data:= .fields ps}:=x
  show h'.get? a=some {cls:= .none,data:= .fields ps}
  exact k a _ (.inl rfl) e
 |met f y=>
  have e:h.get? a=some (PySem.W.methodObj (.ref f) (.ref y)):=x
  show h'.get? a=some (PySem.W.methodObj (.ref f) (.ref y))
  exact k a _ (.inl rfl) e
 |ext φ=>obtain⟨p,⟨o,e⟩,st⟩:=x;exact⟨st _ _ p fun o q=>k _ _ (.inl rfl) q,⟨o,k _ _ (.inl rfl) e⟩,st⟩
theorem HOk.lt (x:HOk P w H h)(e:H a=some o):a<h.objs.size:=(x a o e).lt
theorem HOk.fresh (x:HOk P w H h)(e:h.objs.size<=a):H a=none:=by
 cases q:H a with
 |none=>rfl
 |some u=>exact absurd (Nat.lt_of_lt_of_le (x.lt q) e) (Nat.lt_irrefl _)
theorem HOk.kept (x:HOk P w H h)(k: ∀b u,h.get? b=some u->h'.get? b=some u):HOk P w H h':=fun a o e=>
 (x a o e).stay (fun b u _ q=>k b u q) (fun _ q=>q) fun _ _ q=>q
theorem HOk.laid (x:HOk P w H h)(k: ∀b u,h.get? b=some u->h'.get? b=some u)(hp:h.objs.size<=a)(new:lJ P w (upd H a o) h' a o):HOk P w (upd H a o) h':=fun b u e=>by
 have hn:=x.fresh hp
 by_cases hb:b=a
 .subst hb;rw[aH] at e;cases e;exact new
 .rw[aM hb] at e
  exact(x b u e).stay (fun c v _ q=>k c v q) (fun c q=>by rw[aM (aX q hn)];exact q) fun c xs q=>by rw[aM (aX q hn)];exact q
end
noncomputable def Rd (H:Hp)(a:Addr)(u:HO):Prop:=H a=some u\/ ∃o,H a=some (.frz o u)
theorem Rd.of {H:Hp}{a:Addr}{u:HO}(h:H a=some u):Rd H a u:= .inl h
theorem Rd.ok {P:Program}{w:World}{H:Hp}{h:Heap}{a:Addr}{u:HO}(r:Rd H a u)(x:HOk P w H h):lJ P w H h a u:=by
 rcases r with r|⟨o,r⟩
 .exact x a u r
 .obtain⟨_,q⟩:=x a _ r
  exact q
noncomputable def Mut:Option HO->Prop
 |some (.lst _)=>True
 |some (.dK _)=>True
 |some (.dT _)=>True
 |some (.set _ _)=>True
 |some (.ins _ _ _)=>True
 |some (.ext _)=>True
 |_=>False
section
variable{P:Program}{w:World}{H:Hp}{h h':Heap}{x e:Addr}{o':HO}
theorem HOk.write (ok:HOk P w H h)(mu:Mut (H x))(he:e=x\/H e=some (.own x))(k: ∀b u,b≠e->h.get? b=some u->h'.get? b=some u)(heo: ∃u,h'.get? e=some u)
  (new:lJ P w (upd H x o') h' x o'):HOk P w (upd H x o') h':=fun b u q=>by
 have nown: ∀c y,H c=some (.own y)->c≠x:=fun c y r z=>by subst z;rw[r] at mu;exact mu
 have ntup: ∀c xs,H c=some (.tup xs)->c≠x:=fun c xs r z=>by subst z;rw[r] at mu;exact mu
 by_cases hb:b=x
 .subst hb;rw[aH] at q;cases q;exact new
 .rw[aM hb] at q
  by_cases hbe:b=e
  .have q':H b=some (.own x):=by
    rcases he with z|z
    .exact absurd (hbe.trans z) hb
    .rw[hbe];exact z
   rw[q] at q';cases q'
   obtain⟨v,hv⟩:=heo
   exact⟨v,by rw[hbe];exact hv⟩
  .refine(ok b u q).stay (fun c v hc r=>k c v ?_ r) (fun c r=>by rw[aM (nown c b r)];exact r) fun c xs r=>by rw[aM (ntup c xs r)];exact r
   rcases hc with rfl|hc
   .exact hbe
   .rintro rfl
    rcases he with z|z
    .exact nown c b hc z
    .rw[hc] at z;cases z;exact hb rfl
end
structure Un (fs ex:List Addr)(H H':Hp)(h h':Heap):Prop where
 keep: ∀b o,h.get? b=some o->H b=none->b∉fs->b∉ex->h'.get? b=some o
 slot: ∀b o,h.get? b=some o->H b=none->b∈fs->b∉ex-> ∃sl,h'.get? b=some {o with slots:=sl}
 free: ∀b o,h.get? b=some o->H b=none->b∉ex->H' b=none
 there: ∀b o,h.get? b=some o->b∉ex-> ∃o',h'.get? b=some o'
 tups: ∀b xs,H b=some (.tup xs)->H' b=some (.tup xs)
 W8: ∀b o u,H b=some (.frz o u)->H' b=some (.frz o u)
 aB9: ∀b ps,H b=some (.tbl ps)-> ∃more,H' b=some (.tbl (ps++more))
section
variable{fs fs' ex ex':List Addr}{H H1 H2:Hp}{h h1 h2 h':Heap}{a x e:Addr}{o:HO}
theorem Un.any (u:Un fs ex H H1 h h1){b:Addr}{ob:Obj}(q:h.get? b=some ob)(n:H b=none)(hx:b∉ex): ∃sl,h1.get? b=some {ob with slots:=sl}:=by
 by_cases hb:b∈fs
 .exact u.slot b ob q n hb hx
 .exact⟨ob.slots,u.keep b ob q n hb hx⟩
theorem Un.kept (k: ∀b u,h.get? b=some u->h'.get? b=some u):Un fs ex H H h h':=
 ⟨fun b ob q _ _ _=>k b ob q,fun b ob q _ _ _=>⟨ob.slots,k b ob q⟩,fun _ _ _ n _=>n,fun b ob q _=>⟨ob,k b ob q⟩,fun _ _ q=>q,fun _ _ _ q=>q,fun _ ps q=>⟨#[],by rw[q];simp⟩⟩
theorem Un.refl:Un fs ex H H h h:=Un.kept fun _ _ q=>q
theorem Un.laid (k: ∀b u,h.get? b=some u->h'.get? b=some u)(hp:h.objs.size<=a)(hn:H a=none):Un fs ex H (upd H a o) h h' where
 keep:=fun b u q _ _ _=>k b u q
 slot:=fun b u q _ _ _=>⟨u.slots,k b u q⟩
 free:=fun b u q n _=>by rw[aM (Nat.ne_of_lt (Nat.lt_of_lt_of_le (Heap.lt_size q) hp))];exact n
 there:=fun b u q _=>⟨u,k b u q⟩
 tups:=fun b xs q=>by rw[aM (aX q hn)];exact q
 W8:=fun b u xs q=>by rw[aM (aX q hn)];exact q
 aB9:=fun b ps q=>⟨#[],by rw[aM (aX q hn),q];simp⟩
theorem Un.write (mu:Mut (H x))(he:e=x\/H e=some (.own x))(k: ∀b u,b≠e->h.get? b=some u->h'.get? b=some u)(heo: ∃u,h'.get? e=some u):Un fs ex H (upd H x o) h h':=by
 have hx: ∀b,H b=none->b≠x:=fun b n z=>by subst z;rw[n] at mu;exact mu
 have hb: ∀b,H b=none->b≠e:=fun b n z=>by
  subst z
  rcases he with r|r
  .exact hx b n r
  .rw[n] at r;cases r
 have hm: ∀b u,H b=some u-> ¬Mut (some u)->b≠x:=fun b u q nm z=>by subst z;rw[q] at mu;exact nm mu
 refine⟨fun b u q n _ _=>k b u (hb b n) q,fun b u q n _ _=>⟨u.slots,k b u (hb b n) q⟩,fun b u q n _=>by rw[aM (hx b n)];exact n,fun b u q _=>?_,
  fun b xs q=>by rw[aM (hm b _ q fun z=>z)];exact q,fun b u xs q=>by rw[aM (hm b _ q fun z=>z)];exact q,fun b ps q=>⟨#[],by rw[aM (hm b _ q fun z=>z),q];simp⟩⟩
 by_cases hbe:b=e
 .subst hbe;exact heo
 .exact⟨u,k b u hbe q⟩
end
noncomputable def trk (h:Heap)(H:Hp):List Addr:=(List.range h.objs.size).filter fun a=>(H a).isSome
noncomputable def aI4 (h:Heap)(H:Hp):Heap:=PySem.W.hideAll h (trk h H)
theorem aRt (h:Heap)(H:Hp):(aI4 h H).objs.size=h.objs.size:=PySem.W.hideAll_size _ _
theorem aTo {h:Heap}{H:Hp}{b:Addr}{o:Obj}(e:h.get? b=some o)(n:H b=none):(aI4 h H).get? b=some o:=
 PySem.W.hideAll_get _ e fun hm=>by
  have q:(H b).isSome=true:=(List.mem_filter.mp hm).2
  rw[n] at q;simp at q
theorem aWp {h:Heap}{H:Hp}{b:Addr}{o:Obj}(e:(aI4 h H).get? b=some o):h.get? b=some o/\H b=none:=by
 have e':h.get? b=some o:=PySem.W.of_hideAll (trk h H) e
 refine⟨e',?_⟩
 cases q:H b with
 |none=>rfl
 |some x=>
  have hm:b∈trk h H:=List.mem_filter.mpr ⟨List.mem_range.mpr (Heap.lt_size e'),by simp[q]⟩
  have z:(aI4 h H).get? b=none:=PySem.W.hideAll_none (trk h H) hm
  rw[z] at e;cases e
noncomputable def aWq (g h:Heap)(L:Addr):List (Addr×Obj):=(List.range h.objs.size).filterMap fun a=>if a=L\/(g.get? a).isSome=true then none else(h.get? a).map fun o=>(a,o)
noncomputable def rest (g h:Heap)(L d:Addr):List (Addr×Obj):=(aWq g h L).filter fun p=>decide (p.1≠d)
end L2
namespace L2
open PySem PySem.Spec PyProof.Rows
structure Mod (K:PySem.W.Frag)(mg:Str->Option Value)(base:Heap):Prop where
 kin:K.In base
 glob:base.Ns mainGlobals mg
 blt: ∃mb,base.Ns builtinsNs mb/\ ∀x:Str,x≠"__name__"->mb x=bootBuiltins x
 nolimit:base.NoLimit
structure Cx where
 prog:Program
 w:World
 K:PySem.W.Frag
 mg:Str->Option Value
 base:Heap
 A:Around
 N:List Str
 s_0:Shared
 H_0:Hp
 env:Env
 outer:List Env
 stack:List Env
 ex:List Addr
 fn:Str->Bool
 calm:Bool
 pn:List (Addr×Obj)
 xe:Value->Shared->Prop
noncomputable def frs (l:List Env):List Addr:=l.filterMap (·.frame)
noncomputable abbrev Cx.fs (X:Cx):List Addr:=frs X.outer
noncomputable def Vis (sc:Scope)(x:Str):Prop:=sc.names.lookup x=some .local\/sc.names.lookup x=some .cell\/sc.names.lookup x=some .free
noncomputable def Loc (sc:Scope)(x:Str):Prop:=sc.names.lookup x=some .local\/sc.names.lookup x=some .cell
noncomputable def Look (env:Env)(h:Heap)(m:Str->Option Value)(x:Str)(u:Value):Prop:=
 (env.kindOf x=some .local/\m x=some u)\/((env.kindOf x=some .cell\/env.kindOf x=some .free)/\ ∃c,env.cells.lookup x=some c/\h.IsCell c (some u))
structure Cx.Ok (X:Cx):Prop where
 mod:Mod X.K X.mg X.base
 kind:X.env.scope.kind= .function
 glob:X.env.globals=mainGlobals
 blt:X.env.builtins=builtinsNs
 above:X.s_0.heap.objs.size<=X.env.locals
 inj: ∀x y c,X.env.cells.lookup x=some c->X.env.cells.lookup y=some c->x=y
 has: ∀x,(X.env.kindOf x=some .cell\/X.env.kindOf x=some .free)-> ∃c,X.env.cells.lookup x=some c
 cab: ∀x c,X.fn x=true->X.env.cells.lookup x=some c->X.s_0.heap.objs.size<=c
 hd:X.calm=true->X.A.handled=none
 frames:X.A.frames=some X.stack
 stk:X.stack=X.outer\/(X.stack=X.env::X.outer/\X.env.frame=some X.env.locals)
 exf: ∀b∈X.ex,b≠X.env.locals/\ ∀x c,X.env.cells.lookup x=some c->c≠b
 bs: ∀b o,X.base.get? b=some o->X.s_0.heap.get? b=some o/\X.H_0 b=none
 bsz:X.base.objs.size<=X.s_0.heap.objs.size
 aCc: ∀b o,X.base.get? b=some o->b∉X.ex
 aLb: ∀b∈X.ex,b∉X.fs
 HF:X.s_0.heap.FunFrames X.base X.outer
 frf: ∀b∈X.fs,X.H_0 b=none
structure Inv (X:Cx)(pins:List (Addr×Obj))(σ:List (Option V))(H:Hp)(s:Shared):Prop where
 ok:X.Ok
 os:s.os=X.s_0.os
 bare:AllBare s.gens
 base:Un X.fs X.ex X.H_0 H X.s_0.heap s.heap
 loc: ∃m,s.heap.Ns X.env.locals m/\ ∀(i:Nat)(x:Str)(v:V),X.N[i]?=some x->σ[i]?=some (some v)->Vis X.env.scope x-> ∃u,RelV v u/\Look X.env s.heap m x u
 cell: ∀x c,X.env.cells.lookup x=some c-> ∃v,s.heap.IsCell c v
 free:H X.env.locals=none
 pC: ∀x c,X.env.cells.lookup x=some c->H c=none
 pin: ∀p∈X.pn++pins,s.heap.get? p.1=some p.2/\H p.1=none/\p.1≠X.env.locals/\p.1∉X.fs/\ ∀v,p.2.data≠ .cell v
 hok:HOk X.prog X.w H s.heap
 len:σ.length=X.N.length
section
variable{X:Cx}{pins:List (Addr×Obj)}{σ:List (Option V)}{H H':Hp}{s:Shared}{h':Heap}
theorem Cx.Ok.bEm (ok:X.Ok){b:Addr}{o:Obj}(e:X.base.get? b=some o):b∉X.fs:=fun hb=>by
 have:=(ok.HF.mem hb).1
 rw[e] at this;cases this
theorem Inv.bs (I:Inv X pins σ H s): ∀b o,X.base.get? b=some o->s.heap.get? b=some o/\H b=none:=fun b o e=>
 ⟨I.base.keep b o (I.ok.bs b o e).1 (I.ok.bs b o e).2 (I.ok.bEm e) (I.ok.aCc b o e),I.base.free b o (I.ok.bs b o e).1 (I.ok.bs b o e).2 (I.ok.aCc b o e)⟩
theorem Inv.bk (I:Inv X pins σ H s): ∀b o,X.base.get? b=some o->s.heap.get? b=some o:=fun b o e=>(I.bs b o e).1
theorem Inv.mod (I:Inv X pins σ H s):Mod X.K X.mg X.base:=I.ok.mod
theorem Inv.kIn (I:Inv X pins σ H s):X.K.In s.heap:=I.ok.mod.kin.keeps I.bk
theorem Inv.lt (I:Inv X pins σ H s):X.env.locals<s.heap.objs.size:=let ⟨_,hn,_⟩:=I.loc;hn.lt
theorem Inv.sz (I:Inv X pins σ H s):X.s_0.heap.objs.size<=s.heap.objs.size:=Nat.le_trans I.ok.above (Nat.le_of_lt I.lt)
theorem Inv.bEn (I:Inv X pins σ H s){a:Addr}(h:s.heap.objs.size<=a):a∉X.fs:=fun hb=>by
 obtain⟨_,o,ho,_⟩:=I.ok.HF.mem hb
 exact absurd (Nat.lt_of_lt_of_le (Heap.lt_size ho) (Nat.le_trans I.sz h)) (Nat.lt_irrefl _)
theorem Inv.cne (I:Inv X pins σ H s): ∀x c,X.env.cells.lookup x=some c->c≠X.env.locals:=fun x c e z=>by
 obtain⟨v,o,ho,hd⟩:=I.cell x c e
 obtain⟨m,⟨o',es,ep,ho',hd',_⟩,_⟩:=I.loc
 rw[z,ho'] at ho;cases ho;rw[hd'] at hd;cases hd
theorem Inv.HF (I:Inv X pins σ H s):s.heap.FunFrames X.base X.outer:=by
 have all: ∀(l:List Env),(∀b∈frs l,b∈X.fs)->X.s_0.heap.FunFrames X.base l->s.heap.FunFrames X.base l:=by
  intro l
  induction l with
  |nil=>intro _ _;trivial
  |cons env r ih=>
   intro hs hl
   obtain⟨hk,⟨L,o,hf,hn,ho,hd⟩,hr⟩:=hl
   have hL:L∈X.fs:=hs L (by unfold frs;rw[List.filterMap_cons,hf];exact List.mem_cons_self)
   obtain⟨sl,e⟩:=I.base.slot L o ho (I.ok.frf L hL) hL fun z=>I.ok.aLb L z hL
   exact⟨hk,⟨L,_,hf,hn,e,hd⟩,ih (fun b hb=>hs b (by unfold frs;rw[List.filterMap_cons,hf];exact List.mem_cons_of_mem _ hb)) hr⟩
 exact all X.outer (fun _ hb=>hb) I.ok.HF
theorem Inv.stack (I:Inv X pins σ H s):s.heap.FunFrames X.base X.stack:=by
 rcases I.ok.stk with e|⟨e,hf⟩
 .rw[e];exact I.HF
 .rw[e]
  obtain⟨m,hn,_⟩:=I.loc
  refine .cons (by rw[I.ok.kind];decide) hf hn ?_ I.HF
  exact Heap.get?_none_of_le (Nat.le_trans I.ok.bsz I.ok.above)
theorem Inv.aI5 (I:Inv X pins σ H s): ∀b∈frs X.stack,b∈X.env.locals::X.fs:=fun b hb=>by
 rcases I.ok.stk with e|⟨e,hf⟩
 .rw[e] at hb;exact List.mem_cons_of_mem _ hb
 .rw[e] at hb
  unfold frs at hb
  rw[List.filterMap_cons,hf] at hb
  exact hb
theorem Inv.aI6 (I:Inv X pins σ H s): ∀b∈frs X.stack,H b=none:=fun b hb=>by
 rcases List.mem_cons.mp (I.aI5 b hb) with e|hb
 .rw[e];exact I.free
 .obtain⟨_,o,ho,_⟩:=I.ok.HF.mem hb
  exact I.base.free b o ho (I.ok.frf b hb) fun z=>I.ok.aLb b z hb
theorem Inv.step {g':Array GenState}{t':Nat}{d':Drawn}{ch:List Addr}(I:Inv X pins σ H s)
  (hch: ∀b∈ch,(b∈X.ex\/X.s_0.heap.objs.size<=b)/\b≠X.env.locals/\(∀x c,X.env.cells.lookup x=some c->c≠b)/\ ∀p∈X.pn++pins,p.1≠b)
  (keep: ∀b o,b≠X.env.locals->b∉X.fs->b∉ch->s.heap.get? b=some o->H b=none->h'.get? b=some o)
  (slot: ∀b o,b≠X.env.locals->b∈X.fs->b∉ch->s.heap.get? b=some o->H b=none-> ∃sl,h'.get? b=some {o with slots:=sl}) (free: ∀b o,b∉ch->s.heap.get? b=some o->H b=none->H' b=none)
  (there: ∀b o,b∉ch->s.heap.get? b=some o-> ∃o',h'.get? b=some o')
  (tups: ∀b xs,H b=some (.tup xs)->H' b=some (.tup xs)) (W8: ∀b o u,H b=some (.frz o u)->H' b=some (.frz o u)) (aB9: ∀b ps,H b=some (.tbl ps)-> ∃more,H' b=some (.tbl (ps++more)))
  (ns: ∀m,s.heap.Ns X.env.locals m->h'.Ns X.env.locals m) (hok:HOk X.prog X.w H' h') (hg:AllBare g'):
  Inv X pins σ H' {s with heap:=h',gens:=g',drawn:=d',toks:=t'}:=by
 have neL: ∀b o,X.s_0.heap.get? b=some o->b≠X.env.locals:=fun b o e=>Nat.ne_of_lt (Nat.lt_of_lt_of_le (Heap.lt_size e) I.ok.above)
 have neC: ∀b o,X.s_0.heap.get? b=some o->b∉X.ex->b∉ch:=fun b o e hx hb=>by
  rcases(hch b hb).1 with z|z
  .exact hx z
  .exact absurd (Nat.lt_of_lt_of_le (Heap.lt_size e) z) (Nat.lt_irrefl _)
 have cellK: ∀x c,X.env.cells.lookup x=some c-> ∀v,s.heap.IsCell c v->h'.IsCell c v:=fun x c e v⟨o,ho,hd⟩=>by
  have nch:c∉ch:=fun z=>(hch c z).2.2.1 x c e rfl
  by_cases hc:c∈X.fs
  .obtain⟨sl,q⟩:=slot c o (I.cne x c e) hc nch ho (I.pC x c e)
   exact⟨_,q,hd⟩
  .exact⟨o,keep c o (I.cne x c e) hc nch ho (I.pC x c e),hd⟩
 refine⟨I.ok,I.os,hg,⟨fun b o e n hb hx=>?_,fun b o e n hb hx=>?_,fun b o e n hx=>?_,fun b o e hx=>?_,fun b xs e=>tups b xs (I.base.tups b xs e),fun b o xs e=>W8 b o xs (I.base.W8 b o xs e),fun b ps e=>?_⟩,?_,fun x c e=>?_,?_,fun x c e=>?_,fun p hp=>?_,hok,I.len⟩
 .exact keep b o (neL b o e) hb (neC b o e hx) (I.base.keep b o e n hb hx) (I.base.free b o e n hx)
 .obtain⟨sl,e1⟩:=I.base.slot b o e n hb hx
  obtain⟨sl',e2⟩:=slot b _ (neL b o e) hb (neC b o e hx) e1 (I.base.free b o e n hx)
  exact⟨sl',e2⟩
 .obtain⟨o',e1⟩:=I.base.there b o e hx
  exact free b o' (neC b o e hx) e1 (I.base.free b o e n hx)
 .obtain⟨o',e1⟩:=I.base.there b o e hx
  exact there b o' (neC b o e hx) e1
 .obtain⟨m1,e1⟩:=I.base.aB9 b ps e
  obtain⟨m2,e2⟩:=aB9 b _ e1
  exact⟨m1++m2,by rw[e2,Array.append_assoc]⟩
 .obtain⟨m,hn,hl⟩:=I.loc
  refine⟨m,ns m hn,fun i x v e1 e2 e3=>?_⟩
  obtain⟨u,r,l⟩:=hl i x v e1 e2 e3
  refine⟨u,r,?_⟩
  rcases l with l|⟨k,c,e,z⟩
  .exact .inl l
  .exact .inr ⟨k,c,e,cellK x c e _ z⟩
 .obtain⟨v,z⟩:=I.cell x c e
  exact⟨v,cellK x c e v z⟩
 .obtain⟨m,⟨o,_,_,ho,_⟩,_⟩:=I.loc
  exact free _ o (fun z=>(hch _ z).2.1 rfl) ho I.free
 .obtain⟨v,o,ho,hd⟩:=I.cell x c e
  exact free c o (fun z=>(hch c z).2.2.1 x c e rfl) ho (I.pC x c e)
 .obtain⟨e,n,ne,nf,d⟩:=I.pin p hp
  have nch:p.1∉ch:=fun z=>(hch p.1 z).2.2.2 p hp rfl
  exact⟨keep p.1 p.2 ne nf nch e n,free p.1 p.2 nch e n,ne,nf,d⟩
theorem Inv.un {t':Nat}(I:Inv X pins σ H s)(u:Un X.fs [] H H' s.heap h')(hok:HOk X.prog X.w H' h'):Inv X pins σ H' {s with heap:=h',toks:=t'}:=by
 obtain⟨m,⟨o,es,ep,ho,r⟩,_⟩:=id I.loc
 obtain⟨sl,hL⟩:=u.any ho I.free (by simp)
 exact I.step (g':=s.gens) (d':=s.drawn) (ch:=[]) (fun _ z=>nomatch z) (fun b o _ hb _ e n=>u.keep b o e n hb (by simp)) (fun b o _ hb _ e n=>u.slot b o e n hb (by simp)) (fun b o _ e n=>u.free b o e n (by simp)) (fun b o _ e=>u.there b o e (by simp)) u.tups u.W8 u.aB9 (fun m' hm=>by
  obtain⟨o',es',ep',ho',r'⟩:=hm
  rw[ho] at ho';cases ho'
  exact⟨_,es',ep',hL,r'⟩) hok I.bare
theorem Inv.call {g':Array GenState}{t':Nat}{d':Drawn}{ch:List Addr}(I:Inv X pins σ H s)(u:Un (frs X.stack) ch H H' s.heap h')(hok:HOk X.prog X.w H' h')(hg:AllBare g')
  (hch: ∀b∈ch,(b∈X.ex\/X.s_0.heap.objs.size<=b)/\b≠X.env.locals/\(∀x c,X.env.cells.lookup x=some c->c≠b)/\ ∀p∈X.pn++pins,p.1≠b):
  Inv X pins σ H' {s with heap:=h',gens:=g',drawn:=d',toks:=t'}:=by
 obtain⟨m,⟨o,es,ep,ho,r⟩,_⟩:=id I.loc
 obtain⟨sl,hL⟩:=u.any ho I.free fun z=>(hch _ z).2.1 rfl
 exact I.step (ch:=ch) hch (fun b o hL hb hc e n=>u.keep b o e n (fun z=>(List.mem_cons.mp (I.aI5 b z)).elim hL hb) hc) (fun b o _ _ hc e n=>u.any e n hc) (fun b o hc e n=>u.free b o e n hc) (fun b o hc e=>u.there b o e hc) u.tups u.W8 u.aB9 (fun m' hm=>by
  obtain⟨o',es',ep',ho',r'⟩:=hm
  rw[ho] at ho';cases ho'
  exact⟨_,es',ep',hL,r'⟩) hok hg
theorem Inv.turned {t':Nat}{it:Addr}(I:Inv X pins σ H s)(k: ∀b o,b≠it->s.heap.get? b=some o->h'.get? b=some o)(hn:H it=none)(hL:it≠X.env.locals)
  (h1:it∈X.ex\/X.s_0.heap.objs.size<=it) (h2: ∀x c,X.env.cells.lookup x=some c->c≠it) (h3: ∀p∈X.pn++pins,p.1≠it):Inv X pins σ H {s with heap:=h',toks:=t'}:=by
 have nit: ∀b u,H b=some u->b≠it:=fun b u e z=>by rw[z,hn] at e;cases e
 refine I.step (g':=s.gens) (d':=s.drawn) (ch:=[it]) (fun b hb=>?_) (fun b o _ _ hc e _=>k b o (fun z=>hc (by simp[z])) e) (fun b o _ _ hc e _=>⟨o.slots,k b o (fun z=>hc (by simp[z])) e⟩) (fun _ _ _ _ n=>n)
  (fun b o hc e=>⟨o,k b o (fun z=>hc (by simp[z])) e⟩) (fun _ _ e=>e) (fun _ _ _ e=>e) (fun b ps e=>⟨#[],by rw[e];simp⟩) (fun m hm=>?_) (fun b u e=>?_) I.bare
 .have e:b=it:=by simpa using hb
  subst e
  exact⟨h1,hL,h2,h3⟩
 .obtain⟨o,es,ep,ho,r⟩:=hm
  exact⟨o,es,ep,k _ o (Ne.symm hL) ho,r⟩
 .refine(I.hok b u e).stay (fun c v hc q=>k c v ?_ q) (fun _ q=>q) fun _ _ q=>q
  rcases hc with z|z
  .rw[z];exact nit b u e
  .exact nit c _ z
theorem Inv.tok (I:Inv X pins σ H s)(t:Nat):Inv X pins σ H {s with toks:=t}:=I.un (h':=s.heap) (t':=t) Un.refl I.hok
theorem Inv.kept {t':Nat}(I:Inv X pins σ H s)(k: ∀b u,s.heap.get? b=some u->h'.get? b=some u):Inv X pins σ H {s with heap:=h',toks:=t'}:=I.un (Un.kept k) (I.hok.kept k)
theorem Inv.laid {a:Addr}{o:HO}{t':Nat}(I:Inv X pins σ H s)(k: ∀b u,s.heap.get? b=some u->h'.get? b=some u)(hp:s.heap.objs.size<=a)(new:lJ X.prog X.w (upd H a o) h' a o):
  Inv X pins σ (upd H a o) {s with heap:=h',toks:=t'}:=I.un (Un.laid k hp (I.hok.fresh hp)) (I.hok.laid k hp new)
theorem Inv.write {x e:Addr}{o:HO}{t':Nat}(I:Inv X pins σ H s)(mu:Mut (H x))(he:e=x\/H e=some (.own x))(k: ∀b u,b≠e->s.heap.get? b=some u->h'.get? b=some u)(heo: ∃u,h'.get? e=some u)
  (new:lJ X.prog X.w (upd H x o) h' x o):Inv X pins σ (upd H x o) {s with heap:=h',toks:=t'}:=I.un (Un.write mu he k heo) (I.hok.write mu he k heo new)
theorem Inv.weak {σ':List (Option V)}(I:Inv X pins σ H s)(hl:σ'.length=σ.length)(w: ∀(i:Nat) v,σ'[i]?=some (some v)->σ[i]?=some (some v)):Inv X pins σ' H s:=
 ⟨I.ok,I.os,I.bare,I.base,let ⟨m,hn,hl'⟩:=I.loc;⟨m,hn,fun i x v e1 e2 e3=>hl' i x v e1 (w i v e2) e3⟩,I.cell,I.free,I.pC,I.pin,I.hok,hl.trans I.len⟩
theorem Inv.aQ1 {pins':List (Addr×Obj)}(I:Inv X pins σ H s)(h: ∀p∈pins',s.heap.get? p.1=some p.2/\H p.1=none/\p.1≠X.env.locals/\p.1∉X.fs/\ ∀v,p.2.data≠ .cell v):Inv X pins' σ H s:=
 ⟨I.ok,I.os,I.bare,I.base,I.loc,I.cell,I.free,I.pC,fun p hp=>(List.mem_append.mp hp).elim (fun z=>I.pin p (List.mem_append_left _ z)) (h p),I.hok,I.len⟩
theorem aCd {N:List Str}(hN:N.Nodup){i j:Nat}{x:Str}(a:N[i]?=some x)(b:N[j]?=some x):i=j:=by
 obtain⟨h1,e1⟩:=List.getElem?_eq_some_iff.mp a
 obtain⟨h2,e2⟩:=List.getElem?_eq_some_iff.mp b
 exact(List.getElem_inj hN).mp (e1.trans e2.symm)
theorem aRu {M:Model}{A:Around}{E:Value->Shared->Prop}{i:Nat}{x:Str}{v:V}{u:Value}{Q:Unit->Shared->Prop}(I:Inv X pins σ H s)(hN:X.N.Nodup)(hi:X.N[i]?=some x)(hx:Loc X.env.scope x)(r:RelV v u)
  (h: ∀s',Inv X pins (σ.set i (some v)) H s'->(∃a,Heap.SameBut a s.heap s'.heap/\(a=X.env.locals\/X.env.cells.lookup x=some a))->Q () s') (hf:X.fn x=true\/X.env.scope.names.lookup x=some .local):wpAny M A (storeName X.env x u) Q E s:=by
 obtain⟨m,hn,hl⟩:=id I.loc
 have hcls:(X.env.scope.kind== .class||(X.env.scope.kind== .module&&X.env.locals != X.env.globals))=false:=by rw[I.ok.kind];rfl
 have hiσ:i<σ.length:=by rw[I.len];exact(List.getElem?_eq_some_iff.mp hi).1
 have cne:=I.cne
 have tracked: ∀{a:Addr}{h':Heap},(∃o,s.heap.get? a=some o/\H a=none)->Heap.SameBut a s.heap h'->HOk X.prog X.w H h':=fun{a h'} ha hs b ob e=>by
  obtain⟨_,_,hfree⟩:=ha
  refine(I.hok b ob e).stay (fun c w' hc q=>(hs.2 c ?_).trans q) (fun _ q=>q) fun _ _ q=>q
  rintro rfl
  rcases hc with rfl|hc
  .rw[hfree] at e;cases e
  .rw[hfree] at hc;cases hc
 rcases hx with hk|hk
 .refine wpAny_storeName_local hk hn (fun h' hn' hs=>?_) hcls
  obtain⟨oL,_,_,hoL,_⟩:=id hn
  refine h _ ⟨I.ok,I.os,I.bare,⟨fun b o e n hb hx=>?_,fun b o e n hb hx=>?_,I.base.free,fun b o e hx=>?_,I.base.tups,I.base.W8,I.base.aB9⟩,⟨_,hn',fun j y v' e1 e2 e3=>?_⟩,fun y c e=>?_,I.free,I.pC,fun p hp=>?_,tracked ⟨oL,hoL,I.free⟩ hs,by simpa using I.len⟩ ⟨_,hs,.inl rfl⟩
  .exact(hs.2 b (Nat.ne_of_lt (Nat.lt_of_lt_of_le (Heap.lt_size e) I.ok.above))).trans (I.base.keep b o e n hb hx)
  .obtain⟨sl,e1⟩:=I.base.slot b o e n hb hx
   exact⟨sl,(hs.2 b (Nat.ne_of_lt (Nat.lt_of_lt_of_le (Heap.lt_size e) I.ok.above))).trans e1⟩
  .obtain⟨o',e1⟩:=I.base.there b o e hx
   exact⟨o',(hs.2 b (Nat.ne_of_lt (Nat.lt_of_lt_of_le (Heap.lt_size e) I.ok.above))).trans e1⟩
  .by_cases hj:j=i
   .subst hj
    rw[hi] at e1;cases e1
    rw[List.getElem?_set_self hiσ] at e2
    cases e2
    exact⟨u,r,.inl ⟨hk,by simp⟩⟩
   .rw[List.getElem?_set_ne (Ne.symm hj)] at e2
    obtain⟨u',r',q⟩:=hl j y v' e1 e2 e3
    refine⟨u',r',?_⟩
    rcases q with ⟨k,e⟩|⟨k,c,e,z⟩
    .refine .inl ⟨k,?_⟩
     have:y≠x:=fun e=>hj (aCd hN e1 (e▸hi))
     simp[this,e]
    .exact .inr ⟨k,c,e,z.sameBut hs (cne y c e)⟩
  .obtain⟨w',z⟩:=I.cell y c e
   exact⟨w',z.sameBut hs (cne y c e)⟩
  .obtain⟨e,n,ne,nf,d⟩:=I.pin p hp
   exact⟨(hs.2 p.1 ne).trans e,n,ne,nf,d⟩
 .have hfn:X.fn x=true:=by
   rcases hf with z|z
   .exact z
   .rw[z] at hk;cases hk
  obtain⟨c,hc⟩:=I.ok.has x (.inl hk)
  obtain⟨w',z⟩:=I.cell x c hc
  refine wpAny_storeName_cell I.ok.kind hk hc z (fun h' hc' hs=>?_)
  obtain⟨oc,hoc,hocd⟩:=id z
  refine h {s with heap:=h'} ⟨I.ok,I.os,I.bare,⟨fun b o e n hb hx=>?_,fun b o e n hb hx=>?_,I.base.free,fun b o e hx=>?_,I.base.tups,I.base.W8,I.base.aB9⟩,⟨m,hn.sameBut hs (Ne.symm (cne x c hc)),fun j y v' e1 e2 e3=>?_⟩,fun y c' e=>?_,I.free,I.pC,fun p hp=>?_,tracked ⟨oc,hoc,I.pC x c hc⟩ hs,by simpa using I.len⟩ ⟨c,hs,.inr hc⟩
  .exact(hs.2 b (Nat.ne_of_lt (Nat.lt_of_lt_of_le (Heap.lt_size e) (I.ok.cab x c hfn hc)))).trans (I.base.keep b o e n hb hx)
  .obtain⟨sl,e1⟩:=I.base.slot b o e n hb hx
   exact⟨sl,(hs.2 b (Nat.ne_of_lt (Nat.lt_of_lt_of_le (Heap.lt_size e) (I.ok.cab x c hfn hc)))).trans e1⟩
  .obtain⟨o',e1⟩:=I.base.there b o e hx
   exact⟨o',(hs.2 b (Nat.ne_of_lt (Nat.lt_of_lt_of_le (Heap.lt_size e) (I.ok.cab x c hfn hc)))).trans e1⟩
  .by_cases hj:j=i
   .subst hj
    rw[hi] at e1;cases e1
    rw[List.getElem?_set_self hiσ] at e2
    cases e2
    exact⟨u,r,.inr ⟨.inl hk,c,hc,hc'⟩⟩
   .rw[List.getElem?_set_ne (Ne.symm hj)] at e2
    obtain⟨u',r',q⟩:=hl j y v' e1 e2 e3
    refine⟨u',r',?_⟩
    rcases q with q|⟨k,c',e,z'⟩
    .exact .inl q
    .refine .inr ⟨k,c',e,z'.sameBut hs ?_⟩
     rintro rfl
     exact hj (aCd hN e1 (I.ok.inj _ _ _ e hc▸hi))
  .by_cases hcc:c'=c
   .subst hcc;exact⟨_,hc'⟩
   .obtain⟨w2,z2⟩:=I.cell y c' e
    exact⟨w2,z2.sameBut hs hcc⟩
  .obtain⟨e,n,ne,nf,d⟩:=I.pin p hp
   refine⟨(hs.2 p.1 ?_).trans e,n,ne,nf,d⟩
   intro q
   rw[q,hoc] at e
   have q':oc=p.2:=Option.some.inj e
   exact d w' (by rw[<- q'];exact hocd)
theorem aCe {M:Model}{A:Around}{E:Value->Shared->Prop}{i:Nat}{x:Str}{v:V}{u:Value}{Q:Unit->Shared->Prop}(I:Inv X pins σ H s)(hN:X.N.Nodup)(hi:X.N[i]?=some x)(hx:Loc X.env.scope x)(r:RelV v u)
  (h: ∀s',Inv X pins (σ.set i (some v)) H s'->Q () s') (hf:X.fn x=true\/X.env.scope.names.lookup x=some .local:=by first|exact .inl rfl|exact .inr rfl|assumption):wpAny M A (storeName X.env x u) Q E s:=
 aRu I hN hi hx r (fun s' I' _=>h s' I') hf
theorem Inv.call' {s':Shared}{ch:List Addr}(I:Inv X pins σ H s)(ho:s'.os=s.os)(u:Un (frs X.stack) ch H H' s.heap s'.heap)(hok:HOk X.prog X.w H' s'.heap)(hg:AllBare s'.gens)
  (hch: ∀b∈ch,(b∈X.ex\/X.s_0.heap.objs.size<=b)/\b≠X.env.locals/\(∀x c,X.env.cells.lookup x=some c->c≠b)/\ ∀p∈X.pn++pins,p.1≠b):Inv X pins σ H' s':=by
 obtain⟨h',g',d',t',o'⟩:=s'
 have e:o'=s.os:=ho
 subst e
 exact I.call (g':=g') (t':=t') (d':=d') u hok hg hch
end
noncomputable abbrev XK:=Value->Option Addr->Hp->Prop
noncomputable abbrev St:=List (Option V)
noncomputable abbrev VK:=V->Hp->Prop
noncomputable abbrev TE:=St->Hp->VK->Prop
noncomputable abbrev TT:=St->Hp->(Bool->Hp->Prop)->Prop
noncomputable abbrev TA:=St->Hp->(List V->Hp->Prop)->Prop
structure Ends where
 nx:St->Hp->Prop
 rt:VK
 bk:St->Hp->Prop:=fun _ _=>False
 ct:St->Hp->Prop:=fun _ _=>False
noncomputable abbrev TS:=Ends->St->Hp->Prop
noncomputable def EP (X:Cx)(pins:List (Addr×Obj))(σ:St)(Q:VK)(u:Value)(s':Shared):Prop:= ∃v H',Inv X pins σ H' s'/\RelV v u/\Q v H'
noncomputable def TP (X:Cx)(pins:List (Addr×Obj))(σ:St)(Q:Bool->Hp->Prop)(b:Bool)(s':Shared):Prop:= ∃H',Inv X pins σ H' s'/\Q b H'
noncomputable def AP (X:Cx)(pins:List (Addr×Obj))(σ:St)(Q:List V->Hp->Prop)(us:List Value)(s':Shared):Prop:= ∃vs H',Inv X pins σ H' s'/\Vals vs us/\Q vs H'
noncomputable def SP (X:Cx)(pins:List (Addr×Obj))(D:Ends)(f:Flow)(s':Shared):Prop:=
 match f with
 | .next=> ∃σ' H',Inv X pins σ' H' s'/\D.nx σ' H'
 | .brk=> ∃σ' H',Inv X pins σ' H' s'/\D.bk σ' H'
 | .cont=> ∃σ' H',Inv X pins σ' H' s'/\D.ct σ' H'
 | .ret u=> ∃v σ' H',Inv X pins σ' H' s'/\RelV v u/\D.rt v H'
noncomputable def PE (X:Cx)(e:Expr)(t:TE):Prop:=
 ∀(pins:List (Addr×Obj))(s:Shared)(σ:St)(H:Hp)(Q:VK),Inv X pins σ H s->t σ H Q->wpAny (model X.prog X.w) X.A (eval e X.env) (EP X pins σ Q) X.xe s
noncomputable def PT (X:Cx)(e:Expr)(t:TT):Prop:=
 ∀(pins:List (Addr×Obj))(s:Shared)(σ:St)(H:Hp)(Q:Bool->Hp->Prop),Inv X pins σ H s->t σ H Q->wpAny (model X.prog X.w) X.A (isTrue e X.env (eval e X.env)) (TP X pins σ Q) X.xe s
noncomputable def PW (X:Cx)(e:Expr)(t:TT):Prop:=
 ∀(whole:Sem Value)(pins:List (Addr×Obj))(s:Shared)(σ:St)(H:Hp)(Q:Bool->Hp->Prop),Inv X pins σ H s->t σ H Q->wpAny (model X.prog X.w) X.A (isTrue e X.env whole) (TP X pins σ Q) X.xe s
theorem PW.pt {X:Cx}{e:Expr}{t:TT}(h:PW X e t):PT X e t:=h _
noncomputable def PA (X:Cx)(es:List Expr)(t:TA):Prop:=
 ∀(pos:Pos)(pins:List (Addr×Obj))(s:Shared)(σ:St)(H:Hp)(Q:List V->Hp->Prop),Inv X pins σ H s->t σ H Q->wpAny (model X.prog X.w) X.A (spliced (backTo pos (starEach es X.env))) (AP X pins σ Q) X.xe s
noncomputable def PS (X:Cx)(st:Stmt)(t:TS):Prop:=
 ∀(pins:List (Addr×Obj))(s:Shared)(σ:St)(H:Hp)(D:Ends),Inv X pins σ H s->t D σ H->wpAny (model X.prog X.w) X.A (exec st X.env) (SP X pins D) X.xe s
noncomputable def PSs (X:Cx)(st:List Stmt)(t:TS):Prop:=
 ∀(pins:List (Addr×Obj))(s:Shared)(σ:St)(H:Hp)(D:Ends),Inv X pins σ H s->t D σ H->wpAny (model X.prog X.w) X.A (execs st X.env) (SP X pins D) X.xe s
theorem thn {α:Type}{t:Sem α}{Q Q':α->Shared->Prop}{M:Model}{A:Around}{E:Value->Shared->Prop}{s:Shared}(h:wpAny M A t Q E s)(hQ: ∀a s,Q a s->Q' a s):wpAny M A t Q' E s:=wpAny_mono h hQ fun _ _ x=>x
end L2
namespace L2
open PySem PySem.Spec PyProof.Rows
section
variable{X:Cx}
noncomputable def bA3 (i:Nat):TE:=fun σ H Q=> ∃v,σ[i]?=some (some v)/\Q v H
noncomputable def tC (v:V):TE:=fun _ H Q=>Q v H
theorem bA4 {i:Nat}{x:Str}{pos:Pos}(hN:X.N[i]?=some x)(hv:Vis X.env.scope x)(hd:(x==("__debug__":Str))=false:=by decide)(hcd:(x==("__classdict__":Str))=false:=by decide):PE X (.Name x pos) (bA3 i):=by
 intro pins s σ H Q I h
 obtain⟨v,e,h⟩:=h
 obtain⟨m,hn,hl⟩:=I.loc
 obtain⟨u,r,l⟩:=hl i x v hN e hv
 have fin:EP X pins σ Q u s:=⟨v,H,I,r,h⟩
 rcases l with ⟨hk,hm⟩|⟨hk,c,hc,hcell⟩
 .exact wpAny_Name (wpAny_loadName_local I.ok.kind hk hn hm fin) hd
 .rcases hk with hk|hk
  .exact wpAny_Name (wpAny_loadName_cell I.ok.kind hk hc hcell fin) hd
  .exact wpAny_Name (wpAny_loadName_free I.ok.kind hk hc hcell fin hcd) hd
theorem aQ {i j pos}:PE X (.Constant (.int i) j pos) (tC (.int i)):=fun _ _ _ H _ I h=>wpAny_Constant_int ⟨.int i,H,I.tok _,⟨_,rfl⟩,h⟩
theorem aZ0 {b j pos}:PE X (.Constant (.bool b) j pos) (tC (.bl b)):=fun _ _ _ H _ I h=>Constant_bool ⟨.bl b,H,I,rfl,h⟩
theorem qW {j pos}:PE X (.Constant .none j pos) (tC .non):=fun _ _ _ H _ I h=>Constant_none ⟨.non,H,I,rfl,h⟩
theorem aN {x j pos}:PE X (.Constant (.str x) j pos) (tC (.str x)):=fun _ _ _ H _ I h=>Calls.Constant_str ⟨.str x,H,I.tok _,⟨_,rfl⟩,h⟩
noncomputable def Gl (X:Cx)(x:Str):Prop:=X.env.kindOf x=some .globalImplicit
theorem yL {E:Value->Shared->Prop}{pins:List (Addr×Obj)}{s:Shared}{σ:St}{H:Hp}{x:Str}{u:Value}{pos:Pos}{Q:Value->Shared->Prop}(I:Inv X pins σ H s)(hg:Gl X x)(hm:X.mg x=some u)(h:Q u s)
  (hd:(x==("__debug__":Str))=false:=by decide):wpAny (model X.prog X.w) X.A (eval (.Name x pos) X.env) Q E s:=
 Calls.Name_function_global I.ok.kind hg (Calls.loadGlobal_global (by rw[I.ok.glob];exact I.mod.glob.keeps I.bk) hm h) hd
theorem aI7 {E:Value->Shared->Prop}{pins:List (Addr×Obj)}{s:Shared}{σ:St}{H:Hp}{x:Str}{u:Value}{pos:Pos}{Q:Value->Shared->Prop}(I:Inv X pins σ H s)(hg:Gl X x)(hm:X.mg x=none)(hv:bootBuiltins x=some u)(h:Q u s)
  (hn:x≠"__name__":=by decide) (hd:(x==("__debug__":Str))=false:=by decide):wpAny (model X.prog X.w) X.A (eval (.Name x pos) X.env) Q E s:=by
 obtain⟨mb,h1,h2⟩:=I.mod.blt
 exact Calls.Name_function_global I.ok.kind hg (Calls.loadGlobal_builtin (by rw[I.ok.glob];exact I.mod.glob.keeps I.bk) hm (by rw[I.ok.blt];exact h1.keeps I.bk) ((h2 x hn).trans hv) h) hd
theorem pR {x:Str}{v:V}{u:Value}{pos:Pos}(hg:Gl X x)(hm:X.mg x=some u)(r:RelV v u)(hd:(x==("__debug__":Str))=false:=by decide):PE X (.Name x pos) (tC v):=
 fun _ _ _ H _ I h=>yL I hg hm ⟨v,H,I,r,h⟩ hd
variable{a b:Expr}{ta tb:TE}{pos:Pos}
noncomputable def tB (t:TE):TT:=fun σ H Q=>t σ H fun x H1=> ∃c,x= .bl c/\Q c H1
theorem nZ {e:Expr}{t:TE}(h:PE X e t)(he: ∀whole,isTrue e X.env whole=(do let v <- whole;standAt e.pos;holding [v] (truthy v)):=by intro _;rfl):PT X e (tB t):=by
 intro pins s σ H Q I hw
 refine isTrue_plain (thn (h pins s σ H _ I hw) fun v s1⟨x,H1,I1,r1,q1⟩=>?_) (he _)
 obtain⟨d,rfl,q⟩:=q1
 cases r1
 exact wpAny_truthy_bool ⟨H1,I1,q⟩
variable{tA tB':TT}{rest:List Expr}
noncomputable def bCb (t u:TT):TT:=fun σ H Q=>t σ H fun c H1=>if c=true then u σ H1 Q else Q false H1
noncomputable def tOr (t u:TT):TT:=fun σ H Q=>t σ H fun c H1=>if c=true then Q true H1 else u σ H1 Q
noncomputable def bCc (t:TT):TT:=fun σ H Q=>t σ H fun c H1=>Q (!c) H1
theorem aQ2 (ha:PT X a tA):PW X (.BoolOp .And [a] pos) tA:=by
 intro wh pins s σ H Q I h
 refine isTrue_and (thn (ha pins s σ H Q I h) fun c s1 e=>?_)
 cases c with
 |true=>exact isTrue_and_nil e
 |false=>exact e
theorem U0 (ha:PT X a tA):PW X (.BoolOp .Or [a] pos) tA:=by
 intro wh pins s σ H Q I h
 refine isTrue_or (thn (ha pins s σ H Q I h) fun c s1 e=>?_)
 cases c with
 |false=>exact isTrue_or_nil e
 |true=>exact e
theorem aTp (ha:PT X a tA)(hb:PW X (.BoolOp .And (b::rest) pos) tB'):PW X (.BoolOp .And (a::b::rest) pos) (bCb tA tB'):=by
 intro wh pins s σ H Q I h
 refine isTrue_and (thn (ha pins s σ H _ I h) fun c s1⟨H1,I1,q1⟩=>?_)
 cases c with
 |true=>exact hb wh pins s1 σ H1 Q I1 q1
 |false=>exact⟨H1,I1,q1⟩
theorem aCf (ha:PT X a tA)(hb:PW X (.BoolOp .Or (b::rest) pos) tB'):PW X (.BoolOp .Or (a::b::rest) pos) (tOr tA tB'):=by
 intro wh pins s σ H Q I h
 refine isTrue_or (thn (ha pins s σ H _ I h) fun c s1⟨H1,I1,q1⟩=>?_)
 cases c with
 |true=>exact⟨H1,I1,q1⟩
 |false=>exact hb wh pins s1 σ H1 Q I1 q1
theorem U3 (ha:PT X a tA):PT X (.UnaryOp .Not a pos) (bCc tA):=by
 intro pins s σ H Q I h
 exact isTrue_not (ha pins s σ H (fun c H1=>Q (!c) H1) I h)
noncomputable def aZ1 (ta tb:TE):TE:=fun σ H Q=>ta σ H fun x H1=> ∃c,x= .bl c/\if c=true then tb σ H1 Q else Q (.bl false) H1
noncomputable def bEo (ta tb:TE):TE:=fun σ H Q=>ta σ H fun x H1=> ∃c,x= .bl c/\if c=true then Q (.bl true) H1 else tb σ H1 Q
theorem aTq {op}{t:TE}(h:PE X a t):PE X (.BoolOp op [a] pos) t:=fun pins s σ H Q I hw=>BoolOp_one (h pins s σ H Q I hw)
theorem aO2 (ha:PE X a ta)(hb:PE X (.BoolOp .And (b::rest) pos) tb):PE X (.BoolOp .And (a::b::rest) pos) (aZ1 ta tb):=by
 intro pins s σ H Q I h
 refine BoolOp_and (thn (ha pins s σ H _ I h) fun v s1⟨x,H1,I1,r1,q1⟩=>?_)
 obtain⟨c,rfl,q1⟩:=q1
 cases r1
 refine wpAny_truthy_bool ?_
 cases c with
 |true=>exact hb pins s1 σ H1 Q I1 q1
 |false=>exact⟨.bl false,H1,I1,rfl,q1⟩
noncomputable def tIf (t:TT)(ta tb:TE):TE:=fun σ H Q=>t σ H fun c H1=>if c=true then ta σ H1 Q else tb σ H1 Q
theorem lK {c:Expr}(hc:PT X c tA)(ha:PE X a ta)(hb:PE X b tb):PE X (.IfExp c a b pos) (tIf tA ta tb):=by
 intro pins s σ H Q I h
 refine wpAny_IfExp (thn (hc pins s σ H _ I h) fun d s1⟨H1,I1,q1⟩=>?_)
 cases d with
 |true=>exact ha pins s1 σ H1 Q I1 q1
 |false=>exact hb pins s1 σ H1 Q I1 q1
end
end L2
namespace L2
open PySem PySem.Spec PyProof.Rows
noncomputable def SqL (K:PySem.W.Frag)(H:Hp)(a:Addr)(xs:List V):Prop:=
 Rd H a (.lst xs)\/
  ∃(o:Obj)(its:Array Value)(n:Nat),K.lookup a=some o/\o.cls= .type "list"/\o.dict=none/\o.data= .seq its n/\its.size<=sizeLine/\Vals xs its.toList
noncomputable def SqT (K:PySem.W.Frag)(H:Hp)(a:Addr)(xs:List V):Prop:=
 Rd H a (.tup xs)\/
  ∃(o:Obj)(its:Array Value)(n:Nat),K.lookup a=some o/\o.cls= .type "tuple"/\o.data= .seq its n/\its.size<=sizeLine/\Vals xs its.toList
noncomputable def bEp:Value->Option V
 | .none=>some .non
 | .bool b=>some (.bl b)
 | .int i _=>some (.int i)
 | .str x _=>some (.str x)
 | .bytes b _=>some (.byt b)
 | .float b _=>some (.flt b)
 | .ref a=>some (.ref a)
 | .type n=>some (.ty n)
 |_=>none
theorem RelV.abs {x:V}{u:Value}(r:RelV x u):bEp u=some x:=by
 cases x with
 |non=>cases r;rfl
 |bl _=>cases r;rfl
 |int _=>obtain⟨t,rfl⟩:=r;rfl
 |str _=>obtain⟨t,rfl⟩:=r;rfl
 |byt _=>obtain⟨t,rfl⟩:=r;rfl
 |flt _=>obtain⟨t,rfl⟩:=r;rfl
 |ref _=>cases r;rfl
 |ty _=>cases r;rfl
theorem RelV.inj {x y:V}{u:Value}(r:RelV x u)(q:RelV y u):x=y:=Option.some.inj (r.abs.symm.trans q.abs)
theorem Vals.inj: ∀{xs ys:List V}{us:List Value},Vals xs us->Vals ys us->xs=ys
 |_,_,_,.nil,.nil=>rfl
 |_,_,_,.cons r t,.cons r' t'=>by rw[r.inj r',Vals.inj t t']
section
variable{X:Cx}{pins:List (Addr×Obj)}{σ:St}{H:Hp}{s:Shared}{a:Addr}{xs ys:List V}
theorem SqL.of {K:PySem.W.Frag}(h:H a=some (.lst xs)):SqL K H a xs:= .inl (.inl h)
theorem SqT.of {K:PySem.W.Frag}(h:H a=some (.tup xs)):SqT K H a xs:= .inl (.inl h)
theorem Inv.list (I:Inv X pins σ H s)(h:SqL X.K H a xs): ∃its:List Value,Vals xs its/\PlainL s.heap a its.toArray/\xs.length<=sizeLine:=by
 rcases h with h|⟨o,its,n,hk,hc,hd,hs,hz,r⟩
 .obtain⟨z,its,n,r,e⟩:=h.ok I.hok
  exact⟨its,r,⟨_,n,e,rfl,rfl,rfl⟩,z⟩
 .refine⟨its.toList,r,⟨o,n,I.kIn a o hk,hc,hd,by simpa using hs⟩,?_⟩
  have e:=r.length
  simp only[Array.length_toList] at e
  lia
theorem Inv.tuple (I:Inv X pins σ H s)(h:SqT X.K H a xs): ∃its:List Value,Vals xs its/\IsTup s.heap a its.toArray/\xs.length<=sizeLine:=by
 rcases h with h|⟨o,its,n,hk,hc,hs,hz,r⟩
 .obtain⟨z,its,r,p⟩:=h.ok I.hok
  exact⟨its,r,p,z⟩
 .refine⟨its.toList,r,⟨o,I.kIn a o hk,hc,n,by simpa using hs⟩,?_⟩
  have e:=r.length
  simp only[Array.length_toList] at e
  lia
theorem Inv.aLc (I:Inv X pins σ H s)(h:SqL X.K H a xs)(h':SqL X.K H a ys):xs=ys:=by
 obtain⟨its,r,⟨o,n,e,_,_,d⟩,_⟩:=I.list h
 obtain⟨its',r',⟨o',n',e',_,_,d'⟩,_⟩:=I.list h'
 rw[e] at e';cases e'
 rw[d] at d'
 injection d' with d1 _
 have:its=its':=by simpa using congrArg Array.toList d1
 subst this
 exact r.inj r'
theorem Inv.aRv (I:Inv X pins σ H s)(h:SqT X.K H a xs)(h':SqT X.K H a ys):xs=ys:=by
 obtain⟨its,r,⟨o,e,_,n,d⟩,_⟩:=I.tuple h
 obtain⟨its',r',⟨o',e',_,n',d'⟩,_⟩:=I.tuple h'
 rw[e] at e';cases e'
 rw[d] at d'
 injection d' with d1 _
 have:its=its':=by simpa using congrArg Array.toList d1
 subst this
 exact r.inj r'
end
noncomputable abbrev Cx.wish (X:Cx)(E:Value->Shared->Prop):Cx:={X with xe:=E}
noncomputable abbrev Cx.nox (X:Cx):Cx:=X.wish fun _ _=>False
theorem Cx.Ok.wish {X:Cx}(ok:X.Ok)(E:Value->Shared->Prop):(X.wish E).Ok:=
 ⟨ok.mod,ok.kind,ok.glob,ok.blt,ok.above,ok.inj,ok.has,ok.cab,ok.hd,ok.frames,ok.stk,ok.exf,ok.bs,ok.bsz,ok.aCc,ok.aLb,ok.HF,ok.frf⟩
theorem Cx.Ok.M6 {X:Cx}{E:Value->Shared->Prop}(ok:(X.wish E).Ok):X.Ok:=
 ⟨ok.mod,ok.kind,ok.glob,ok.blt,ok.above,ok.inj,ok.has,ok.cab,ok.hd,ok.frames,ok.stk,ok.exf,ok.bs,ok.bsz,ok.aCc,ok.aLb,ok.HF,ok.frf⟩
section
variable{X:Cx}{pins:List (Addr×Obj)}{σ:St}{H:Hp}{s:Shared}{E:Value->Shared->Prop}
theorem Inv.wish (I:Inv X pins σ H s)(E:Value->Shared->Prop):Inv (X.wish E) pins σ H s:=⟨I.ok.wish E,I.os,I.bare,I.base,I.loc,I.cell,I.free,I.pC,I.pin,I.hok,I.len⟩
theorem Inv.M6 (I:Inv (X.wish E) pins σ H s):Inv X pins σ H s:=⟨I.ok.M6,I.os,I.bare,I.base,I.loc,I.cell,I.free,I.pC,I.pin,I.hok,I.len⟩
theorem SP.M6 {D:Ends}{f:Flow}{s':Shared}(h:SP (X.wish E) pins D f s'):SP X pins D f s':=by
 cases f with
 |next=>obtain⟨σ',H',I,q⟩:=h;exact⟨σ',H',I.M6,q⟩
 |brk=>obtain⟨σ',H',I,q⟩:=h;exact⟨σ',H',I.M6,q⟩
 |cont=>obtain⟨σ',H',I,q⟩:=h;exact⟨σ',H',I.M6,q⟩
 |ret u=>obtain⟨v,σ',H',I,r,q⟩:=h;exact⟨v,σ',H',I.M6,r,q⟩
theorem PSs.nox {st:List Stmt}{t:TS}(h:PSs X.nox st t):PSs X st t:=fun pins s σ H D I hw=>
 wpAny_mono (h pins s σ H D (I.wish _) hw) (fun _ _ q=>q.M6) fun _ _ z=>False.elim z
end
section
variable{X:Cx}{st:Stmt}{rest:List Stmt}{t u:TS}{e:Expr}{te:TE}{pos:Pos}
noncomputable def aZ2:TS:=fun D σ H=>D.nx σ H
noncomputable def bCd (t u:TS):TS:=fun D σ H=>t {D with nx:=u D} σ H
theorem bC:PSs X [] aZ2:=fun _ _ σ H _ I h=>wpAny_execs_nil ⟨σ,H,I,h⟩
theorem aB (h1:PS X st t)(h2:PSs X rest u):PSs X (st::rest) (bCd t u):=by
 intro pins s σ H D I h
 refine wpAny_execs_cons (thn (h1 pins s σ H {D with nx:=u D} I h) fun f s1 q=>?_)
 cases f with
 |next=>
  obtain⟨σ',H',I',q⟩:=q
  exact h2 pins s1 σ' H' D I' q
 |ret v=>exact q
 |brk=>exact q
 |cont=>exact q
theorem aG (h1:PS X st t):PSs X [st] t:=by
 intro pins s σ H D I h
 refine wpAny_execs_cons (thn (h1 pins s σ H D I h) fun f s1 q=>?_)
 cases f with
 |next=>exact wpAny_execs_nil q
 |ret v=>exact q
 |brk=>exact q
 |cont=>exact q
theorem Inv.quiet {pins:List (Addr×Obj)}{σ:St}{H:Hp}{s:Shared}(I:Inv X pins σ H s):interactive X.env=false:=by simp[interactive,I.ok.kind]
noncomputable def aZ3 (te:TE):TS:=fun D σ H=>te σ H fun _ H1=>D.nx σ H1
theorem bQ (he:PE X e te)(hs:swapsWith e none pos.line X.env=pure false:=by rfl):PS X (.Expr e pos) (aZ3 te):=by
 intro pins s σ H D I h
 exact wpAny_Expr_any (thn (he pins s σ H _ I h) fun v s1⟨x,H1,I1,r1,q1⟩=>⟨σ,H1,I1,q1⟩) I.quiet hs
noncomputable def aO3 (te:TE):TS:=fun D σ H=>te σ H D.rt
theorem aP (he:PE X e te):PS X (.Return (some e) pos) (aO3 te):=by
 intro pins s σ H D I h
 exact wpAny_Return_some (thn (he pins s σ H _ I h) fun v s1⟨x,H1,I1,r1,q1⟩=>⟨x,σ,H1,I1,r1,q1⟩)
noncomputable def bCe:TS:=fun D _ H=>D.rt .non H
noncomputable def bCf (c:TT)(t u:TS):TS:=fun D σ H=>c σ H fun b H1=>if b=true then t D σ H1 else u D σ H1
theorem bR {c:Expr}{a b:List Stmt}{tc:TT}(hc:PT X c tc)(ha:PSs X a t)(hb:PSs X b u):PS X (.If c a b pos) (bCf tc t u):=by
 intro pins s σ H D I h
 refine wpAny_If (thn (hc pins s σ H _ I h) fun d s1⟨H1,I1,q1⟩=>?_)
 cases d with
 |true=>exact ha pins s1 σ H1 D I1 q1
 |false=>exact hb pins s1 σ H1 D I1 q1
noncomputable def aO4:TS:=fun _ _ _=>False
theorem Z5 {sts:List Stmt}:PSs X sts aO4:=fun _ _ _ _ _ _ h=>h.elim
end
noncomputable abbrev TG:=V->St->Hp->(St->Hp->Prop)->Prop
noncomputable abbrev TGs:=List V->St->Hp->(St->Hp->Prop)->Prop
noncomputable def PG (X:Cx)(target:Expr)(t:TG):Prop:=
 ∀(pins:List (Addr×Obj))(s:Shared)(σ:St)(H:Hp)(v:V)(u:Value)(Q:St->Hp->Prop),Inv X pins σ H s->RelV v u->t v σ H Q->
  wpAny (model X.prog X.w) X.A (assign target X.env u) (fun _ s'=> ∃σ' H',Inv X pins σ' H' s'/\Q σ' H') X.xe s
noncomputable def PGs (X:Cx)(ts:List Expr)(t:TGs):Prop:=
 ∀(pins:List (Addr×Obj))(s:Shared)(σ:St)(H:Hp)(vs:List V)(us:List Value)(Q:St->Hp->Prop),Inv X pins σ H s->Vals vs us->t vs σ H Q->
  wpAny (model X.prog X.w) X.A (assignInOrder ((assignEach ts X.env).map (·.2)) us) (fun _ s'=> ∃σ' H',Inv X pins σ' H' s'/\Q σ' H') X.xe s
noncomputable abbrev aO5:=V->V->V->Hp->(Hp->Prop)->Prop
noncomputable def bA5 (X:Cx)(t:aO5):Prop:=
 ∀(pins:List (Addr×Obj))(s:Shared)(σ:St)(H:Hp)(o i v:V)(ov iv u:Value)(Q:Hp->Prop),Inv X pins σ H s->RelV o ov->RelV i iv->RelV v u->t o i v H Q->
  wpAny (model X.prog X.w) X.A (setItem ov iv u) (fun _ s'=> ∃H',Inv X pins σ H' s'/\Q H') X.xe s
noncomputable abbrev TIp:=V->V->Hp->VK->Prop
noncomputable def PIp (X:Cx)(op:Operator)(t:TIp):Prop:=
 ∀(pins:List (Addr×Obj))(s:Shared)(σ:St)(H:Hp)(x y:V)(v u:Value)(Q:VK),Inv X pins σ H s->RelV x v->RelV y u->t x y H Q->
  wpAny (model X.prog X.w) X.A (inplaceOp op v u) (EP X pins σ Q) X.xe s
section
variable{X:Cx}{pos:Pos}
noncomputable def M7 (i:Nat):TG:=fun v σ H Q=>Q (σ.set i (some v)) H
theorem cV {i:Nat}{x:Str}(hN:X.N.Nodup)(hi:X.N[i]?=some x)(hx:Loc X.env.scope x)(hf:X.fn x=true\/X.env.scope.names.lookup x=some .local:=by first|exact .inl rfl|exact .inr rfl|assumption):PG X (.Name x pos) (M7 i):=by
 intro pins s σ H v u Q I r h
 exact wpAny_assign_Name (aCe I hN hi hx r (fun s' I'=>⟨_,H,I',h⟩) hf)
noncomputable def aWr:TGs:=fun vs σ H Q=>vs=[]/\Q σ H
noncomputable def aAo (t:TG)(u:TGs):TGs:=fun vs σ H Q=> ∃v r,vs=v::r/\t v σ H fun σ' H'=>u r σ' H' Q
theorem yM:PGs X [] aWr:=by
 intro pins s σ H vs us Q I r h
 obtain⟨e,h⟩:=h
 subst e
 cases r
 exact assignInOrder_nil ⟨σ,H,I,h⟩
theorem gW {e:Expr}{es:List Expr}{t:TG}{u:TGs}(h1:PG X e t)(h2:PGs X es u)
  (hs:(assignEach (e::es) X.env).map (·.2)=assign e X.env::(assignEach es X.env).map (·.2):=by rfl):PGs X (e::es) (aAo t u):=by
 intro pins s σ H vs us Q I r h
 obtain⟨v,vr,e1,h⟩:=h
 subst e1
 cases r with
 |cons r rr=>
  rw[hs]
  refine assignInOrder_cons (thn (h1 pins s σ H _ _ _ I r h) fun _ s1⟨σ1,H1,I1,q1⟩=>?_)
  exact h2 pins s1 σ1 H1 _ _ Q I1 rr q1
noncomputable def aWs (K:PySem.W.Frag)(n:Nat)(t:TGs):TG:=fun v σ H Q=> ∃a xs,v= .ref a/\SqT K H a xs/\xs.length=n/\t xs σ H Q
theorem M8 {es:List Expr}{k:Nat}{t:TGs}{n:Nat}(hc:X.calm=true)(h:PGs X es t)
  (hn:(assignEach es X.env).length=n:=by rfl) (hst:(assignEach es X.env).findIdx? (·.1)=none:=by rfl):PG X (.Tuple es k pos) (aWs X.K n t):=by
 intro pins s σ H v u Q I r hw
 obtain⟨a,xs,e1,hq,hl,hw⟩:=hw
 subst e1
 cases r
 obtain⟨its,rv,ht,hz⟩:=I.tuple hq
 refine assign_Tuple_tuple (I.ok.hd hc) ht (by simp[hn,<- hl,rv.length]) hst fun h' hx=>?_
 have I1:Inv X pins σ H {s with heap:=h'}:=I.kept (t':=s.toks) fun b o e=>hx b o (Nat.ne_of_lt (Heap.lt_size e)) e
 exact h pins _ σ H xs _ Q I1 (by simpa using rv) hw
noncomputable def bCg (to ti:TE)(t:aO5):TG:=fun v σ H Q=>to σ H fun o H1=>ti σ H1 fun i H2=>t o i v H2 fun H3=>Q σ H3
theorem aCg {o i:Expr}{to ti:TE}{t:aO5}(ho:PE X o to)(hi:PE X i ti)(hs:bA5 X t)
  (ha: ∀v,assign (.Subscript o i pos) X.env v=(do
   let ov <- holding [v] (eval o X.env)
   let iv <- holding [v,ov] (eval i X.env)
   standAt pos
   holding [v,ov,iv] (setItem ov iv v)
   release [v,ov,iv] []):=by intro _;rfl):PG X (.Subscript o i pos) (bCg to ti t):=by
 intro pins s σ H v u Q I r h
 rw[ha]
 refine wpAny_bind (wpAny_holding (thn (ho pins s σ H _ I h) fun ov s1⟨x,H1,I1,r1,q1⟩=>?_))
 refine wpAny_bind (wpAny_holding (thn (hi pins s1 σ H1 _ I1 q1) fun iv s2⟨y,H2,I2,r2,q2⟩=>?_))
 refine wpAny_bind (wpAny_standAt (wpAny_bind (wpAny_holding (thn (hs pins s2 σ H2 x y v ov iv u _ I2 r1 r2 r q2) fun _ s3⟨H3,I3,q3⟩=>?_))))
 exact wpAny_release ⟨σ,H3,I3,q3⟩
noncomputable def aWt (te:TE)(g:TG):TS:=fun D σ H=>te σ H fun x H1=>g x σ H1 D.nx
theorem aCh {tg e:Expr}{te:TE}{g:TG}(he:PE X e te)(hg:PG X tg g)(hs:swapsWithSole [tg] e pos.line X.env=pure false:=by rfl)(hw:swappedStores [tg] e X.env=pure none:=by rfl)
  (h1:(assignEach [tg] X.env).map (·.2)=[assign tg X.env]:=by rfl):PS X (.Assign [tg] e pos) (aWt te g):=by
 intro pins s σ H D I h
 refine wpAny_Assign_stores (thn (he pins s σ H _ I h) fun v s1⟨x,H1,I1,r1,q1⟩=>?_) hs hw
 rw[h1]
 exact thn (hg pins s1 σ H1 x v _ I1 r1 q1) fun _ s2 q=>q
theorem bF {i:Nat}{x:Str}{e:Expr}{te:TE}{pos':Pos}(hN:X.N.Nodup)(hi:X.N[i]?=some x)(hx:Loc X.env.scope x)(he:PE X e te)(hs:swapsWith e (some (.Name x pos')) pos.line X.env=pure false:=by rfl)(hf:X.fn x=true\/X.env.scope.names.lookup x=some .local:=by first|exact .inl rfl|exact .inr rfl|assumption):
  PS X (.Assign [.Name x pos'] e pos) (aWt te (M7 i)):=by
 intro pins s σ H D I h
 refine wpAny_Assign_Name (thn (he pins s σ H _ I h) fun v s1⟨y,H1,I1,r1,q1⟩=>?_) hs
 exact aCe I1 hN hi hx r1 (fun s2 I2=>⟨_,H1,I2,q1⟩) hf
noncomputable def bCh (i:Nat)(te:TE)(ti:TIp):TS:=fun D σ H=> ∃x,σ[i]?=some (some x)/\te σ H fun y H1=>ti x y H1 fun z H2=>D.nx (σ.set i (some z)) H2
theorem aTr {i:Nat}{x:Str}{e:Expr}{te:TE}{op:Operator}{ti:TIp}{pos':Pos}(hN:X.N.Nodup)(hi:X.N[i]?=some x)(hx:Loc X.env.scope x)(he:PE X e te)(ho:PIp X op ti)(hf:X.fn x=true\/X.env.scope.names.lookup x=some .local:=by first|exact .inl rfl|exact .inr rfl|assumption):
  PS X (.AugAssign (.Name x pos') op e pos) (bCh i te ti):=by
 intro pins s σ H D I h
 obtain⟨v,e1,h⟩:=h
 obtain⟨m,hn,hl⟩:=I.loc
 have vis:Vis X.env.scope x:=by rcases hx with k|k;exact .inl k;exact .inr (.inl k)
 obtain⟨u,r,l⟩:=hl i x v hi e1 vis
 refine wpAny_AugAssign_Name ?_
 have go:wpAny (model X.prog X.w) X.A (eval e X.env) (fun w s₂=>wpAny (model X.prog X.w) X.A (inplaceOp op u w) (fun r s₃=>wpAny (model X.prog X.w) X.A (storeName X.env x r) (fun _=>SP X pins D .next) X.xe s₃) X.xe s₂) X.xe s:=by
  refine thn (he pins s σ H _ I h) fun w s1⟨y,H1,I1,r1,q1⟩=>?_
  refine thn (ho pins s1 σ H1 v y u w _ I1 r r1 q1) fun z s2⟨zv,H2,I2,r2,q2⟩=>?_
  exact aCe I2 hN hi hx r2 (fun s3 I3=>⟨_,H2,I3,q2⟩) hf
 rcases l with ⟨hk,hm⟩|⟨hk,c,hc,hcell⟩
 .exact wpAny_loadName_local I.ok.kind hk hn hm go
 .rcases hk with hk|hk
  .exact wpAny_loadName_cell I.ok.kind hk hc hcell go
  .rcases hx with k|k
   .have:X.env.scope.names.lookup x=some .free:=hk
    rw[k] at this;cases this
   .have:X.env.scope.names.lookup x=some .free:=hk
    rw[k] at this;cases this
noncomputable def aZ4 (to ti te:TE)(tget:V->V->Hp->VK->Prop)(tip:TIp)(tset:aO5):TS:=fun D σ H=>to σ H fun o H1=>ti σ H1 fun i H2=>tget o i H2 fun x H3=>te σ H3 fun y H4=>tip x y H4 fun z H5=>tset o i z H5 fun H6=>D.nx σ H6
noncomputable def bCi (X:Cx)(t:V->V->Hp->VK->Prop):Prop:=
 ∀(pins:List (Addr×Obj))(s:Shared)(σ:St)(H:Hp)(o i:V)(ov iv:Value)(Q:VK),Inv X pins σ H s->RelV o ov->RelV i iv->t o i H Q->
  wpAny (model X.prog X.w) X.A (getItem ov iv) (EP X pins σ Q) X.xe s
theorem aQ3 {o i e:Expr}{to ti te:TE}{tget:V->V->Hp->VK->Prop}{tip:TIp}{tset:aO5}{op:Operator}{tpos:Pos}(ho:PE X o to)(hi:PE X i ti)(hg:bCi X tget)(he:PE X e te)(hp:PIp X op tip)(hs:bA5 X tset)
  (ha: ∀ov iv new,augStore i ov iv new=(do holding [new,ov,iv] (setItem ov iv new);release [new,ov,iv] [];pure .next):=by intros;rfl):PS X (.AugAssign (.Subscript o i tpos) op e pos) (aZ4 to ti te tget tip tset):=by
 intro pins s σ H D I h
 refine wpAny_AugAssign_SubscriptAny (thn (ho pins s σ H _ I h) fun ov s1⟨x1,H1,I1,r1,q1⟩=>?_) ha
 refine thn (hi pins s1 σ H1 _ I1 q1) fun iv s2⟨x2,H2,I2,r2,q2⟩=>?_
 refine thn (hg pins s2 σ H2 x1 x2 ov iv _ I2 r1 r2 q2) fun old s3⟨x3,H3,I3,r3,q3⟩=>?_
 refine thn (he pins s3 σ H3 _ I3 q3) fun v s4⟨x4,H4,I4,r4,q4⟩=>?_
 refine thn (hp pins s4 σ H4 x3 x4 old v _ I4 r3 r4 q4) fun new s5⟨x5,H5,I5,r5,q5⟩=>?_
 exact thn (hs pins s5 σ H5 x1 x2 x5 ov iv new _ I5 r1 r2 r5 q5) fun _ s6⟨H6,I6,q6⟩=>⟨σ,H6,I6,q6⟩
noncomputable def ipI (f:Int->Int->Int):TIp:=fun x y H Q=> ∃i j,x= .int i/\y= .int j/\Q (.int (f i j)) H
theorem aI8:PIp X .Add (ipI fun i j=>i+j):=by
 intro pins s σ H x y v u Q I r1 r2 h
 obtain⟨i,j,e1,e2,q⟩:=h
 subst e1;subst e2
 obtain⟨t,rfl⟩:=r1
 obtain⟨t',rfl⟩:=r2
 exact iadd_int ⟨.int _,H,I.tok _,⟨_,rfl⟩,q⟩
end
section
variable{X:Cx}{pos:Pos}
noncomputable def aTs (c:TT)(tb:TS):TS:=fun D σ H=> ∃W:Nat->St->Hp->Prop,(∃m,W m σ H)/\ ∀m σ H,W m σ H->
 c σ H fun b H1=>if b=true then ∃N:St->Hp->Prop,(∀σ' H',N σ' H'-> ∃m',m'<m/\W m' σ' H')/\tb {D with nx:=N,ct:=N,bk:=D.nx} σ H1 else D.nx σ H1
theorem aLd {c:Expr}{body:List Stmt}{tc:TT}{tb:TS}(hp:PassesOwn (model X.prog X.w) X.A X.env X.xe)(hc:PT X c tc)(hb:PSs X body tb):PS X (.While c body [] pos) (aTs tc tb):=by
 intro pins s σ H D I h
 obtain⟨W,⟨m0,w0⟩,turn⟩:=h
 refine wpAny_While (codeAny_whileLoop (fun n s'=> ∃σ' H',Inv X pins σ' H' s'/\W n σ' H') ?_ m0 ⟨σ,H,I,w0⟩)
 rintro n s1 ⟨σ1,H1,I1,w1⟩
 refine wpAny_passesOwn hp (thn (hc pins s1 σ1 H1 _ I1 (turn n σ1 H1 w1)) fun b s2⟨H2,I2,q2⟩=>?_)
 cases b with
 |true=>
  obtain⟨N,hN,q2⟩:=q2
  rw[if_pos rfl]
  refine wpAny_passesOwn hp (thn (hb pins s2 σ1 H2 _ I2 q2) fun f s3 q3=>?_)
  cases f with
  |next=>
   obtain⟨σ3,H3,I3,n3⟩:=q3
   obtain⟨m',hm,w3⟩:=hN σ3 H3 n3
   exact⟨m',hm,σ3,H3,I3,w3⟩
  |cont=>
   obtain⟨σ3,H3,I3,n3⟩:=q3
   obtain⟨m',hm,w3⟩:=hN σ3 H3 n3
   exact⟨m',hm,σ3,H3,I3,w3⟩
  |brk=>exact q3
  |ret v=>exact q3
 |false=>
  rw[if_neg Bool.false_ne_true]
  exact wpAny_execs_nil ⟨σ1,H2,I2,q2⟩
end
structure It where
 go:Nat->Hp->Prop
 yld:Nat->Hp->V->Hp->Prop
 stop:Nat->Hp->Prop
noncomputable def aCi (X:Cx)(pins:List (Addr×Obj))(H:Hp)(b:Addr):Prop:=
 H b=none/\b≠X.env.locals/\b∉X.fs/\(b∈X.ex\/X.s_0.heap.objs.size<=b)/\(∀x c,X.env.cells.lookup x=some c->c≠b)/\ ∀p∈X.pn++pins,p.1≠b
theorem Inv.aTt {X:Cx}{pins:List (Addr×Obj)}{σ:St}{H H':Hp}{s:Shared}{b:Addr}(I:Inv X pins σ H s)(hb:s.heap.objs.size<=b)(hn:H' b=none):aCi X pins H' b:=by
 refine⟨hn,Nat.ne_of_gt (Nat.lt_of_lt_of_le I.lt hb),I.bEn hb,.inr (Nat.le_trans I.sz hb),fun x c e z=>?_,fun p hp z=>?_⟩
 .obtain⟨v,q⟩:=I.cell x c e
  exact absurd (Nat.lt_of_lt_of_le q.lt (by rw[z];exact hb)) (Nat.lt_irrefl _)
 .exact absurd (Nat.lt_of_lt_of_le (Heap.lt_size (I.pin p hp).1) (by rw[z];exact hb)) (Nat.lt_irrefl _)
structure Turn (P:Program)(w:World)(K:PySem.W.Frag)(tg:Expr)(J:It)(fp:List Addr)(it:Addr)(tn:Nat->Heap->Prop):Prop where
 mem:it∈fp
 obj: ∀i h,tn i h-> ∀b∈fp,∃o,h.get? b=some o/\ ∀v,o.data≠ .cell v
 keep: ∀i h h',tn i h->(∀b∈fp,∀o,h.get? b=some o->h'.get? b=some o)->tn i h'
 item: ∀(X:Cx),X.prog=P->X.w=w->X.K=K->X.calm=true-> ∀(i:Nat)(pins:List (Addr×Obj))(s:Shared)(σ:St)(H:Hp)(E:Value->Shared->Prop),Inv X pins σ H s->(∀b∈fp,aCi X pins H b)->tn i s.heap->J.go i H->
  wpAny (model P w) X.A (pyNext (.ref it)) (fun r s1=> ∃u,r=some u/\
   wpAny (model P w) X.A (letOwnedTupleGo tg (.ref it) u) (fun _ s2=> ∃x H',Inv X pins σ H' s2/\RelV x u/\J.yld i H x H'/\tn (i+1) s2.heap/\ ∀b∈fp,H' b=none) E s1) E s
 done: ∀(X:Cx),X.prog=P->X.w=w->X.K=K->X.calm=true-> ∀(i:Nat)(pins:List (Addr×Obj))(s:Shared)(σ:St)(H:Hp)(E:Value->Shared->Prop),Inv X pins σ H s->(∀b∈fp,aCi X pins H b)->tn i s.heap->J.stop i H->
  wpAny (model P w) X.A (pyNext (.ref it)) (fun r s1=>r=none/\Inv X pins σ H s1) E s
 self: ∀(A:Around)(i:Nat)(s:Shared)(Q:Value->Shared->Prop)(E:Value->Shared->Prop),tn i s.heap->Q (.ref it) s->wpAny (model P w) A (pyIter (.ref it)) Q E s
noncomputable abbrev TI:=St->Hp->(It->Hp->Prop)->Prop
noncomputable def PIE (X:Cx)(pins:List (Addr×Obj))(σ:St)(tg:Expr)(R:It->Hp->Prop)(itv:Value)(s2:Shared):Prop:=
 ∃(it:Addr)(fp:List Addr)(tn:Nat->Heap->Prop)(J:It)(H':Hp),itv= .ref it/\Inv X pins σ H' s2/\Turn X.prog X.w X.K tg J fp it tn/\tn 0 s2.heap/\(∀b∈fp,aCi X pins H' b)/\R J H'
noncomputable def PI (X:Cx)(tg iter:Expr)(wi:TI):Prop:=
 ∀(pins:List (Addr×Obj))(s:Shared)(σ:St)(H:Hp)(R:It->Hp->Prop),Inv X pins σ H s->wi σ H R->
  wpAny (model X.prog X.w) X.A (eval iter X.env) (fun v s1=>wpAny (model X.prog X.w) X.A (pyIter v) (PIE X pins σ tg R) X.xe s1) X.xe s
theorem aTu {M:Model}{A:Around}{E:Value->Shared->Prop}{s:Shared}{tg:Expr}{it:Addr}{u:Value}{o:Obj}{n:String}{vs:Array Value}{Q:Unit->Shared->Prop}(ho:s.heap.get? it=some o)(hc:o.cls= .type n)(hd:o.data= .fields vs)
  (hn:["enumerate","zip","dict_itemiterator","dict_reverseitemiterator","odict_iterator","itertools.zip_longest","itertools.pairwise"].contains n=false) (hQ:Q () s):wpAny M A (letOwnedTupleGo tg (.ref it) u) Q E s:=by
 unfold letOwnedTupleGo
 cases tg <;>first
  |exact wpAny_pure hQ
  |(cases u <;>first
    |exact wpAny_pure hQ
    |(refine wpAny_bind (wpAny_load ho ?_)
      rw[hc,hd]
      show wpAny M A (if(["enumerate","zip","dict_itemiterator","dict_reverseitemiterator","odict_iterator","itertools.zip_longest","itertools.pairwise"].contains n&&vs[0]?==some (rawInt _))=true then _ else _) Q E s
      rw[if_neg (by intro h;rw[hn,Bool.false_and] at h;cases h)]
      exact wpAny_pure hQ))
noncomputable def Itl (K:PySem.W.Frag)(a:Addr):It:=
 ⟨fun i H=> ∃xs x,SqL K H a xs/\xs[i]?=some x,fun i H x H'=>H'=H/\ ∀xs,SqL K H a xs->xs[i]?=some x,fun i H=> ∃xs,SqL K H a xs/\xs.length<=i⟩
noncomputable def Itt (K:PySem.W.Frag)(a:Addr):It:=
 ⟨fun i H=> ∃xs x,SqT K H a xs/\xs[i]?=some x,fun i H x H'=>H'=H/\ ∀xs,SqT K H a xs->xs[i]?=some x,fun i H=> ∃xs,SqT K H a xs/\xs.length<=i⟩
noncomputable def Itr (lo:Int)(n:Nat):It:=⟨fun i _=>i<n,fun i H x H'=>H'=H/\x= .int (lo+i),fun i _=>n<=i⟩
theorem aRw {P:Program}{w:World}{K:PySem.W.Frag}{tg:Expr}(a it:Addr):Turn P w K tg (Itl K a) [it] it (fun i h=>h.IsListIter it a i) where
 mem:=by simp
 obj:=fun i h st b hb=>by
  have e:b=it:=by simpa using hb
  subst e
  obtain⟨o,e,c,d⟩:=st
  exact⟨o,e,fun v z=>by rw[d] at z;cases z⟩
 keep:=fun i h h' st k=>st.at fun o e=>k it (by simp) o e
 item:=by
  intro X hP hw hK hc i pins s σ H E I hf st hg
  subst hP hw hK
  obtain⟨xs,x,hq,hx⟩:=hg
  obtain⟨its,rv,p,hz⟩:=I.list hq
  obtain⟨u,hu,ru⟩:=rv.get hx
  obtain⟨f0,f1,f2,f3,f4,f5⟩:=hf it (by simp)
  refine wpAny_pyNext_list_item st p.isList (x:=u) (by simpa using hu) fun h' st' sb=>?_
  have I1:Inv X pins σ H {s with heap:=h'}:=I.turned (t':=s.toks) (fun b o hb e=>(sb.2 b hb).trans e) f0 f1 f3 f4 f5
  obtain⟨o,e,c,d⟩:=id st'
  exact⟨u,rfl,aTu (s:={s with heap:=h'}) e c d (by decide) ⟨x,H,I1,ru,⟨rfl,fun ys hy=>by rw[I.aLc hy hq];exact hx⟩,st',fun b hb=>(hf b hb).1⟩⟩
 done:=by
  intro X hP hw hK hc i pins s σ H E I hf st hg
  subst hP hw hK
  obtain⟨xs,hq,hx⟩:=hg
  obtain⟨its,rv,p,hz⟩:=I.list hq
  obtain⟨f0,f1,f2,f3,f4,f5⟩:=hf it (by simp)
  have hl:=rv.length
  exact wpAny_pyNext_list_end (I.ok.hd hc) st p.isList (by simp;lia) fun h' eb=>⟨rfl,I.turned (t':=s.toks) (fun b o hb e=>eb b o hb e) f0 f1 f3 f4 f5⟩
 self:=fun _ _ _ _ _ st h=>wpAny_pyIter_listiter st h
theorem aO6 {P:Program}{w:World}{K:PySem.W.Frag}{tg:Expr}(a it:Addr):Turn P w K tg (Itt K a) [it] it (fun i h=>h.IsTupleIter it a i) where
 mem:=by simp
 obj:=fun i h st b hb=>by
  have e:b=it:=by simpa using hb
  subst e
  obtain⟨o,e,c,d⟩:=st
  exact⟨o,e,fun v z=>by rw[d] at z;cases z⟩
 keep:=fun i h h' st k=>st.at fun o e=>k it (by simp) o e
 item:=by
  intro X hP hw hK hc i pins s σ H E I hf st hg
  subst hP hw hK
  obtain⟨xs,x,hq,hx⟩:=hg
  obtain⟨its,rv,p,hz⟩:=I.tuple hq
  obtain⟨u,hu,ru⟩:=rv.get hx
  obtain⟨f0,f1,f2,f3,f4,f5⟩:=hf it (by simp)
  refine wpAny_pyNext_tuple_item st (show s.heap.IsTuple a its.toArray from p) (x:=u) (by simpa using hu) fun h' st' sb=>?_
  have I1:Inv X pins σ H {s with heap:=h'}:=I.turned (t':=s.toks) (fun b o hb e=>(sb.2 b hb).trans e) f0 f1 f3 f4 f5
  obtain⟨o,e,c,d⟩:=id st'
  exact⟨u,rfl,aTu (s:={s with heap:=h'}) e c d (by decide) ⟨x,H,I1,ru,⟨rfl,fun ys hy=>by rw[I.aRv hy hq];exact hx⟩,st',fun b hb=>(hf b hb).1⟩⟩
 done:=by
  intro X hP hw hK hc i pins s σ H E I hf st hg
  subst hP hw hK
  obtain⟨xs,hq,hx⟩:=hg
  obtain⟨its,rv,p,hz⟩:=I.tuple hq
  obtain⟨f0,f1,f2,f3,f4,f5⟩:=hf it (by simp)
  have hl:=rv.length
  exact wpAny_pyNext_tuple_end (I.ok.hd hc) st (show s.heap.IsTuple a its.toArray from p) (by simp;lia) fun h' eb=>⟨rfl,I.turned (t':=s.toks) (fun b o hb e=>eb b o hb e) f0 f1 f3 f4 f5⟩
 self:=fun _ _ _ _ _ st h=>wpAny_pyIter_tupleiter st h
theorem aO7 {P:Program}{w:World}{K:PySem.W.Frag}{tg:Expr}(it:Addr)(lo:Int)(n:Nat):Turn P w K tg (Itr lo n) [it] it (fun i h=>IsRangeIter h it (lo+(i:Nat)*1) ((n:Int)-(i:Nat)) 1) where
 mem:=by simp
 obj:=fun i h st b hb=>by
  have e:b=it:=by simpa using hb
  subst e
  exact⟨_,st,fun v z=>by
   have z':Data.fields _=Data.cell v:=z
   cases z'⟩
 keep:=fun i h h' st k=>k it (by simp) _ st
 item:=by
  intro X hP hw hK hc i pins s σ H E I hf st hg
  subst hP hw hK
  obtain⟨f0,f1,f2,f3,f4,f5⟩:=hf it (by simp)
  have W:=Walks.range (prog:=X.prog) (w:=X.w) (I.ok.hd hc) it lo 1 n
  refine W.item i s _ _ hg st fun v h' tk hv st' kk=>?_
  obtain⟨t,rfl⟩:=hv
  have I1:Inv X pins σ H {s with heap:=h',toks:=tk}:=I.turned (fun b o hb e=>kk b o (by simpa using hb) e) f0 f1 f3 f4 f5
  refine⟨_,rfl,aTu (s:={s with heap:=h',toks:=tk}) (n:="range_iterator") st' rfl rfl (by decide) ⟨.int (lo+i),H,I1,⟨t,?_⟩,⟨rfl,rfl⟩,st',fun b hb=>(hf b hb).1⟩⟩
  rw[Int.mul_one]
 done:=by
  intro X hP hw hK hc i pins s σ H E I hf st hg
  subst hP hw hK
  obtain⟨f0,f1,f2,f3,f4,f5⟩:=hf it (by simp)
  exact wpAny_pyNext_range_end (I.ok.hd hc) st (by have:n<=i:=hg;lia) fun h' eb=>⟨rfl,I.turned (t':=s.toks) (fun b o hb e=>eb b o hb e) f0 f1 f3 f4 f5⟩
 self:=fun _ _ _ _ _ st h=>wpAny_pyIter_rangeiter st h
end L2
namespace L2
open PySem PySem.Spec PyProof.Rows
section
variable{X:Cx}{tg:Expr}
noncomputable def aTv (K:PySem.W.Frag)(tl:TE):TI:=fun σ H R=>tl σ H fun x H1=> ∃a,x= .ref a/\(∃xs,SqL K H1 a xs)/\R (Itl K a) H1
noncomputable def bCj (K:PySem.W.Frag)(tl:TE):TI:=fun σ H R=>tl σ H fun x H1=> ∃a,x= .ref a/\(∃xs,SqT K H1 a xs)/\R (Itt K a) H1
theorem nM {l:Expr}{tl:TE}(hl:PE X l tl):PI X tg l (aTv X.K tl):=by
 intro pins s σ H R I h
 refine thn (hl pins s σ H _ I h) fun v s1⟨x,H1,I1,r1,q1⟩=>?_
 obtain⟨a,e,⟨xs,hq⟩,q⟩:=q1
 subst e
 cases r1
 obtain⟨its,rv,p,hz⟩:=I1.list hq
 refine wpAny_pyIter_list p.isList ?_
 refine⟨s1.heap.objs.size,[s1.heap.objs.size],_,_,H1,rfl,I1.kept (t':=s1.toks) fun b o e=>Heap.get?_push_of_some _ e,aRw a _,⟨_,Heap.get?_push_size _ rfl,rfl,rfl⟩,fun b hb=>?_,q⟩
 have e:b=s1.heap.objs.size:=by simpa using hb
 subst e
 exact I1.aTt (Nat.le_refl _) (I1.hok.fresh (Nat.le_refl _))
theorem aCj {l:Expr}{tl:TE}(hl:PE X l tl):PI X tg l (bCj X.K tl):=by
 intro pins s σ H R I h
 refine thn (hl pins s σ H _ I h) fun v s1⟨x,H1,I1,r1,q1⟩=>?_
 obtain⟨a,e,⟨xs,hq⟩,q⟩:=q1
 subst e
 cases r1
 obtain⟨its,rv,p,hz⟩:=I1.tuple hq
 refine wpAny_pyIter_tuple (show s1.heap.IsTuple a its.toArray from p) ?_
 refine⟨s1.heap.objs.size,[s1.heap.objs.size],_,_,H1,rfl,I1.kept (t':=s1.toks) fun b o e=>Heap.get?_push_of_some _ e,aO6 a _,⟨_,Heap.get?_push_size _ rfl,rfl,rfl⟩,fun b hb=>?_,q⟩
 have e:b=s1.heap.objs.size:=by simpa using hb
 subst e
 exact I1.aTt (Nat.le_refl _) (I1.hok.fresh (Nat.le_refl _))
theorem aTw {pins:List (Addr×Obj)}{σ:St}{H:Hp}{s:Shared}{R:It->Hp->Prop}{E:Value->Shared->Prop}{lo hi:Int}{t u v:Tok}{tk:Nat}(I:Inv X pins σ H s)(h1: -(2^62)<=lo)(h2:lo<2^62)(h3: -(2^62)<=hi)(h4:hi<2^62)
  (q:R (Itr lo (hi-lo).toNat) H):wpAny (model X.prog X.w) X.A (pyIter (.ref s.heap.objs.size)) (PIE X pins σ tg R) E {s with heap:=s.heap.push {cls:= .type "range",data:= .fields #[.int lo t,.int hi u,.int 1 v]},toks:=tk}:=by
 refine wpAny_pyIter_range (IsRange.new ..) (small_one h1 h2 h3 h4) ?_
 have I1:Inv X pins σ H {s with heap:=s.heap.push {cls:= .type "range",data:= .fields #[.int lo t,.int hi u,.int 1 v]},toks:=tk}:=I.kept fun b o e=>Heap.get?_push_of_some _ e
 refine⟨(s.heap.push {cls:= .type "range",data:= .fields #[.int lo t,.int hi u,.int 1 v]}).objs.size,[(s.heap.push {cls:= .type "range",data:= .fields #[.int lo t,.int hi u,.int 1 v]}).objs.size],_,_,H,rfl,
  I1.kept (t':=tk) fun b o e=>Heap.get?_push_of_some _ e,aO7 _ lo (hi-lo).toNat,?_,fun b hb=>?_,q⟩
 .have e1:lo+((0:Nat):Int)*1=lo:=by simp
  have e2:(((hi-lo).toNat:Nat):Int)-((0:Nat):Int)=Builtin.Range.rangeSize lo hi 1:=by rw[rangeSize_one];split <;>lia
  show IsRangeIter _ _ (lo+((0:Nat):Int)*1) ((((hi-lo).toNat:Nat):Int)-((0:Nat):Int)) 1
  rw[e1,e2]
  exact Heap.get?_push_size _ rfl
 .have e:b=(s.heap.push {cls:= .type "range",data:= .fields #[.int lo t,.int hi u,.int 1 v]}).objs.size:=by simpa using hb
  subst e
  exact I1.aTt (Nat.le_refl _) (I1.hok.fresh (Nat.le_refl _))
noncomputable def aTx (ta:TA):TI:=fun σ H R=>ta σ H fun vs H1=> ∃j:Int,vs=[.int j]/\ -(2^62)<=j/\j<2^62/\R (Itr 0 j.toNat) H1
theorem DK {a:Expr}{ta:TA}{p pos:Pos}(hg:Gl X "range")(hm:X.mg "range"=none)(ha:PA X [a] ta)(hs:starEach [a] X.env=[(false,eval a X.env)]:=by rfl):PI X tg (.Call (.Name "range" p) [a] [] pos) (aTx ta):=by
 intro pins s σ H R I h
 refine Call_ (aI7 I hg hm boot_range (PyProof.Rows.callWith_type1 (thn (ha pos pins s σ H _ I h) fun us s1⟨vs,H1,I1,r1,q1⟩=>?_) hs rfl))
 obtain⟨j,e,q1,q2,q⟩:=q1
 subst e
 cases r1 with
 |cons r rr=>
  cases rr
  obtain⟨t,rfl⟩:=r
  exact call_range_1 (aTw I1 (by lia) (by lia) q1 q2 (by simpa using q))
noncomputable def aTy (wi:TI)(g:TG)(tb:TS):TS:=fun D σ H=>wi σ H fun J H1=> ∃W:Nat->Nat->St->Hp->Prop,(∃m,W 0 m σ H1)/\ ∀i m σ H,W i m σ H->
 (J.stop i H/\D.nx σ H)\/(J.go i H/\ ∃N:St->Hp->Prop,(∀σ' H',N σ' H'-> ∃m',m'<m/\W (i+1) m' σ' H')/\ ∀x H',J.yld i H x H'->g x σ H' fun σ2 H2=>tb {D with nx:=N,ct:=N,bk:=D.nx} σ2 H2)
noncomputable def aCk (fp:List Addr)(h:Heap):List (Addr×Obj):=fp.filterMap fun b=>(h.get? b).map fun o=>(b,o)
theorem U4 {fp:List Addr}{h:Heap}{b:Addr}{o:Obj}(hb:b∈fp)(e:h.get? b=some o):(b,o)∈aCk fp h:=List.mem_filterMap.mpr ⟨b,hb,by rw[e];rfl⟩
theorem aRx {fp:List Addr}{h:Heap}{p:Addr×Obj}(hp:p∈aCk fp h):p.1∈fp/\h.get? p.1=some p.2:=by
 obtain⟨b,hb,e⟩:=List.mem_filterMap.mp hp
 cases q:h.get? b with
 |none=>rw[q] at e;cases e
 |some o=>
  rw[q] at e
  have e':(b,o)=p:=Option.some.inj e
  subst e'
  exact⟨hb,q⟩
theorem Inv.pinned {pins:List (Addr×Obj)}{σ:St}{H:Hp}{s:Shared}{fp:List Addr}(I:Inv X pins σ H s)(hf: ∀b∈fp,aCi X pins H b)(ho: ∀b∈fp,∃o,s.heap.get? b=some o/\ ∀v,o.data≠ .cell v):Inv X (pins++aCk fp s.heap) σ H s:=
 I.aQ1 fun p hp=>(List.mem_append.mp hp).elim (fun z=>I.pin p (List.mem_append_right _ z)) fun z=>by
  obtain⟨hb,e⟩:=aRx z
  obtain⟨f0,f1,f2,_⟩:=hf p.1 hb
  obtain⟨o,e',d⟩:=ho p.1 hb
  rw[e] at e';cases e'
  exact⟨e,f0,f1,f2,d⟩
theorem Inv.W9 {pins pl:List (Addr×Obj)}{σ:St}{H:Hp}{s:Shared}(I:Inv X (pins++pl) σ H s):Inv X pins σ H s:=I.aQ1 fun p hp=>I.pin p (List.mem_append_right _ (List.mem_append_left _ hp))
theorem lM {iter:Expr}{body:List Stmt}{wi:TI}{g:TG}{tb:TS}{pos:Pos}(hp:PassesOwn (model X.prog X.w) X.A X.env X.xe)(hc:X.calm=true)(hi:PI X tg iter wi)(hg:PG X tg g)(hb:PSs X body tb)
  (hs: ∀x,foldedSetIterable iter X.env x=pure x:=by intro _;rfl):PS X (.For tg iter body [] pos) (aTy wi g tb):=by
 intro pins s σ H D I h
 refine wpAny_For (thn (hi pins s σ H _ I h) fun v s1 h1=>thn h1 fun itv s2 h2=>?_) hs
 obtain⟨it,fp,tn,J,H2,e,I2,T,st2,f2,W,⟨m0,w0⟩,turn⟩:=h2
 subst e
 have stat: ∀{H':Hp},(∀b∈fp,H' b=none)-> ∀b∈fp,aCi X pins H' b:=fun hn b hb=>⟨hn b hb,(f2 b hb).2⟩
 refine codeAny_forLoop_any (fun n s'=> ∃i σ' H',Inv X pins σ' H' s'/\tn i s'.heap/\(∀b∈fp,H' b=none)/\W i n σ' H') ?_ m0 ⟨0,σ,H2,I2,st2,fun b hb=>(f2 b hb).1,w0⟩
 rintro n s3 ⟨i,σ3,H3,I3,st3,fr3,w3⟩
 rcases turn i n σ3 H3 w3 with ⟨stop,qn⟩|⟨go,N,hN,step⟩
 .refine wpAny_passesOwn hp (thn (T.done X rfl rfl rfl hc i pins s3 σ3 H3 X.xe I3 (stat fr3) st3 stop) fun r s4⟨hr,I4⟩=>?_)
  subst hr
  exact wpAny_execs_nil ⟨σ3,H3,I4,qn⟩
 .refine wpAny_passesOwn hp (thn (T.item X rfl rfl rfl hc i pins s3 σ3 H3 X.xe I3 (stat fr3) st3 go) fun r s4⟨u,hr,h4⟩=>?_)
  subst hr
  refine wpAny_passesOwn hp (thn h4 fun _ s5⟨x,H5,I5,r5,y5,st5,fr5⟩=>?_)
  have I5':=I5.pinned (stat fr5) (T.obj _ _ st5)
  refine wpAny_passesOwn hp (thn (hg _ s5 σ3 H5 x u _ I5' r5 (step x H5 y5)) fun _ s6⟨σ6,H6,I6,q6⟩=>?_)
  refine wpAny_passesOwn hp (thn (hb _ s6 σ6 H6 _ I6 q6) fun f s7 q7=>?_)
  have again: ∀{σ7:St}{H7:Hp},Inv X (pins++aCk fp s5.heap) σ7 H7 s7->N σ7 H7-> ∃m,m<n/\ ∃i σ' H',Inv X pins σ' H' s7/\tn i s7.heap/\(∀b∈fp,H' b=none)/\W i m σ' H':=fun{σ7 H7} I7 n7=>by
   obtain⟨m',hm,w7⟩:=hN σ7 H7 n7
   refine⟨m',hm,i+1,σ7,H7,I7.W9,T.keep _ _ _ st5 fun b hb o e=>(I7.pin (b,o) (List.mem_append_right _ (List.mem_append_right _ (U4 hb e)))).1,fun b hb=>?_,w7⟩
   obtain⟨o,e,d⟩:=T.obj _ _ st5 b hb
   exact(I7.pin (b,o) (List.mem_append_right _ (List.mem_append_right _ (U4 hb e)))).2.1
  cases f with
  |next=>obtain⟨σ7,H7,I7,n7⟩:=q7;exact again I7 n7
  |cont=>obtain⟨σ7,H7,I7,n7⟩:=q7;exact again I7 n7
  |brk=>obtain⟨σ7,H7,I7,q7⟩:=q7;exact⟨σ7,H7,I7.W9,q7⟩
  |ret v=>obtain⟨x7,σ7,H7,I7,r7,q7⟩:=q7;exact⟨x7,σ7,H7,I7.W9,r7,q7⟩
end
theorem aLe {K:PySem.W.Frag}{a:Addr}{xs:List V}{g:TG}{tb:TS}{D:Ends}{σ:St}{H:Hp}(Pv:Nat->St->Hp->Prop)(h0:Pv 0 σ H)(hl: ∀i σ H,i<=xs.length->Pv i σ H->SqL K H a xs)
  (hs: ∀i x σ H,xs[i]?=some x->Pv i σ H->g x σ H fun σ2 H2=>tb {D with nx:=Pv (i+1),ct:=Pv (i+1),bk:=D.nx} σ2 H2) (hd: ∀σ H,Pv xs.length σ H->D.nx σ H):
  ∃W:Nat->Nat->St->Hp->Prop,(∃m,W 0 m σ H)/\ ∀i m σ H,W i m σ H->
   ((Itl K a).stop i H/\D.nx σ H)\/((Itl K a).go i H/\ ∃N:St->Hp->Prop,(∀σ' H',N σ' H'-> ∃m',m'<m/\W (i+1) m' σ' H')/\ ∀x H',(Itl K a).yld i H x H'->g x σ H' fun σ2 H2=>tb {D with nx:=N,ct:=N,bk:=D.nx} σ2 H2):=by
 refine⟨fun i m σ H=>m=xs.length-i/\i<=xs.length/\Pv i σ H,⟨xs.length,by simp,Nat.zero_le _,h0⟩,?_⟩
 rintro i m σ H ⟨rfl,hi,p⟩
 have q:=hl i σ H hi p
 by_cases hlt:i<xs.length
 .refine .inr ⟨⟨xs,xs[i],q,by simp[hlt]⟩,Pv (i+1),fun σ' H' p'=>⟨xs.length-(i+1),by lia,rfl,hlt,p'⟩,fun x H' y=>?_⟩
  obtain⟨e,y⟩:=y
  subst e
  exact hs i x σ _ (y xs q) p
 .have e:i=xs.length:=by lia
  subst e
  exact .inl ⟨⟨xs,q,Nat.le_refl _⟩,hd σ H p⟩
theorem aWu {K:PySem.W.Frag}{a:Addr}{xs:List V}{g:TG}{tb:TS}{D:Ends}{σ:St}{H:Hp}(Pv:Nat->St->Hp->Prop)(h0:Pv 0 σ H)(hl: ∀i σ H,i<=xs.length->Pv i σ H->SqT K H a xs)
  (hs: ∀i x σ H,xs[i]?=some x->Pv i σ H->g x σ H fun σ2 H2=>tb {D with nx:=Pv (i+1),ct:=Pv (i+1),bk:=D.nx} σ2 H2) (hd: ∀σ H,Pv xs.length σ H->D.nx σ H):
  ∃W:Nat->Nat->St->Hp->Prop,(∃m,W 0 m σ H)/\ ∀i m σ H,W i m σ H->
   ((Itt K a).stop i H/\D.nx σ H)\/((Itt K a).go i H/\ ∃N:St->Hp->Prop,(∀σ' H',N σ' H'-> ∃m',m'<m/\W (i+1) m' σ' H')/\ ∀x H',(Itt K a).yld i H x H'->g x σ H' fun σ2 H2=>tb {D with nx:=N,ct:=N,bk:=D.nx} σ2 H2):=by
 refine⟨fun i m σ H=>m=xs.length-i/\i<=xs.length/\Pv i σ H,⟨xs.length,by simp,Nat.zero_le _,h0⟩,?_⟩
 rintro i m σ H ⟨rfl,hi,p⟩
 have q:=hl i σ H hi p
 by_cases hlt:i<xs.length
 .refine .inr ⟨⟨xs,xs[i],q,by simp[hlt]⟩,Pv (i+1),fun σ' H' p'=>⟨xs.length-(i+1),by lia,rfl,hlt,p'⟩,fun x H' y=>?_⟩
  obtain⟨e,y⟩:=y
  subst e
  exact hs i x σ _ (y xs q) p
 .have e:i=xs.length:=by lia
  subst e
  exact .inl ⟨⟨xs,q,Nat.le_refl _⟩,hd σ H p⟩
theorem aRy {lo:Int}{n:Nat}{g:TG}{tb:TS}{D:Ends}{σ:St}{H:Hp}(Pv:Nat->St->Hp->Prop)(h0:Pv 0 σ H)
  (hs: ∀i σ H,i<n->Pv i σ H->g (.int (lo+i)) σ H fun σ2 H2=>tb {D with nx:=Pv (i+1),ct:=Pv (i+1),bk:=D.nx} σ2 H2) (hd: ∀σ H,Pv n σ H->D.nx σ H):
  ∃W:Nat->Nat->St->Hp->Prop,(∃m,W 0 m σ H)/\ ∀i m σ H,W i m σ H->
   ((Itr lo n).stop i H/\D.nx σ H)\/((Itr lo n).go i H/\ ∃N:St->Hp->Prop,(∀σ' H',N σ' H'-> ∃m',m'<m/\W (i+1) m' σ' H')/\ ∀x H',(Itr lo n).yld i H x H'->g x σ H' fun σ2 H2=>tb {D with nx:=N,ct:=N,bk:=D.nx} σ2 H2):=by
 refine⟨fun i m σ H=>m=n-i/\i<=n/\Pv i σ H,⟨n,by simp,Nat.zero_le _,h0⟩,?_⟩
 rintro i m σ H ⟨rfl,hi,p⟩
 by_cases hlt:i<n
 .refine .inr ⟨hlt,Pv (i+1),fun σ' H' p'=>⟨n-(i+1),by lia,rfl,hlt,p'⟩,fun x H' y=>?_⟩
  obtain⟨e,y⟩:=y
  subst e y
  exact hs i σ _ hlt p
 .have e:i=n:=by lia
  subst e
  exact .inl ⟨Nat.le_refl _,hd σ H p⟩
theorem aTz {c:TT}{tb:TS}{D:Ends}{σ:St}{H:Hp}(Pv:St->Hp->Prop)(μ:St->Hp->Nat)(h0:Pv σ H)
  (hs: ∀σ H,Pv σ H->c σ H fun b H1=>if b=true then tb {D with nx:=fun σ' H'=>Pv σ' H'/\μ σ' H'<μ σ H,ct:=fun σ' H'=>Pv σ' H'/\μ σ' H'<μ σ H,bk:=D.nx} σ H1 else D.nx σ H1)
  (mono: ∀σ H Q Q',(∀b H1,Q b H1->Q' b H1)->c σ H Q->c σ H Q'):aTs c tb D σ H:=by
 refine⟨fun m σ H=>m=μ σ H/\Pv σ H,⟨_,rfl,h0⟩,?_⟩
 rintro m σ H ⟨rfl,p⟩
 refine mono σ H _ _ (fun b H1 q=>?_) (hs σ H p)
 cases b with
 |true=>exact⟨_,fun σ' H'⟨p',l⟩=>⟨_,l,rfl,p'⟩,q⟩
 |false=>exact q
end L2
namespace L2
open PySem PySem.Spec PyProof.Rows
noncomputable abbrev R2:=V->V->Hp->VK->Prop
noncomputable def OpR (X:Cx)(f:Value->Value->Sem Value)(r:R2):Prop:=
 ∀(pins:List (Addr×Obj))(s:Shared)(σ:St)(H:Hp)(x y:V)(v u:Value)(Q:VK),Inv X pins σ H s->RelV x v->RelV y u->r x y H Q->
  wpAny (model X.prog X.w) X.A (f v u) (EP X pins σ Q) X.xe s
noncomputable def UnR (X:Cx)(f:Value->Sem Value)(r:V->Hp->VK->Prop):Prop:=
 ∀(pins:List (Addr×Obj))(s:Shared)(σ:St)(H:Hp)(x:V)(v:Value)(Q:VK),Inv X pins σ H s->RelV x v->r x H Q->
  wpAny (model X.prog X.w) X.A (f v) (EP X pins σ Q) X.xe s
noncomputable def aCl (X:Cx)(f:Value)(r:List V->Hp->VK->Prop):Prop:=
 ∀(pins:List (Addr×Obj))(s:Shared)(σ:St)(H:Hp)(xs:List V)(us:List Value)(Q:VK),Inv X pins σ H s->Vals xs us->r xs H Q->
  wpAny (model X.prog X.w) X.A (call f us) (EP X pins σ Q) X.xe s
noncomputable def tOp (r:R2)(ta tb:TE):TE:=fun σ H Q=>ta σ H fun x H1=>tb σ H1 fun y H2=>r x y H2 Q
noncomputable def tUn (r:V->Hp->VK->Prop)(ta:TE):TE:=fun σ H Q=>ta σ H fun x H1=>r x H1 Q
noncomputable def rI (C:Int->Int->Prop)(g:Int->Int->V):R2:=fun x y H Q=> ∃i j,x= .int i/\y= .int j/\C i j/\Q (g i j) H
noncomputable def rI0 (g:Int->Int->V):R2:=fun x y H Q=> ∃i j,x= .int i/\y= .int j/\Q (g i j) H
noncomputable def rU (g:Int->V):V->Hp->VK->Prop:=fun x H Q=> ∃i,x= .int i/\Q (g i) H
section
variable{X:Cx}{a b c:Expr}{ta tb tc:TE}{pos:Pos}
theorem bA6 (ha:PE X a ta)(hb:PE X b tb){pins:List (Addr×Obj)}{s:Shared}{σ:St}{H:Hp}{R:V->V->Hp->Prop}(I:Inv X pins σ H s)
  (h:ta σ H fun x H1=>tb σ H1 fun y H2=>R x y H2) {Q:Value->Shared->Prop} {f:Value->Value->Sem Value}
  (hf: ∀v u s2 x y H2,Inv X pins σ H2 s2->RelV x v->RelV y u->R x y H2->wpAny (model X.prog X.w) X.A (f v u) Q X.xe s2):
  wpAny (model X.prog X.w) X.A (eval a X.env) (fun v s₁=>wpAny (model X.prog X.w) X.A (eval b X.env) (fun u s₂=>wpAny (model X.prog X.w) X.A (f v u) Q X.xe s₂) X.xe s₁) X.xe s:=by
 refine thn (ha pins s σ H _ I h) fun v s1⟨x,H1,I1,r1,q1⟩=>?_
 refine thn (hb pins s1 σ H1 _ I1 q1) fun u s2⟨y,H2,I2,r2,q2⟩=>?_
 exact hf v u s2 x y H2 I2 r1 r2 q2
theorem cN {op:Operator}{r:R2}(ho:OpR X (binaryOp op) r)(ha:PE X a ta)(hb:PE X b tb):PE X (.BinOp a op b pos) (tOp r ta tb):=by
 intro pins s σ H Q I h
 exact wpAny_BinOp (bA6 ha hb I h fun v u s2 x y H2 I2 rx ry q=>ho pins s2 σ H2 x y v u Q I2 rx ry q)
theorem T3 {op:UnaryOp}{r:V->Hp->VK->Prop}(ho:UnR X (unaryOp op) r)(ha:PE X a ta):PE X (.UnaryOp op a pos) (tUn r ta):=by
 intro pins s σ H Q I h
 exact UnaryOp_ (thn (ha pins s σ H _ I h) fun v s1⟨x,H1,I1,r1,q1⟩=>ho pins s1 σ H1 x v Q I1 r1 q1)
theorem opI {f:Value->Value->Sem Value}{C:Int->Int->Prop}{g:Int->Int->Int}
  (rule: ∀(i j:Int)(t u:Tok)(s:Shared)(Q:Value->Shared->Prop)(E:Value->Shared->Prop),C i j->Q (.int (g i j) s.toks) {s with toks:=s.toks+1}->wpAny (model X.prog X.w) X.A (f (.int i t) (.int j u)) Q E s):
  OpR X f (rI C fun i j=> .int (g i j)):=by
 intro pins s σ H x y v u Q I rx ry h
 obtain⟨i,j,rfl,rfl,hc,q⟩:=h
 obtain⟨t,rfl⟩:=rx
 obtain⟨t',rfl⟩:=ry
 exact rule i j t t' s _ _ hc ⟨.int (g i j),H,I.tok _,⟨_,rfl⟩,q⟩
theorem bCk {f:Value->Value->Sem Value}{g:Int->Int->Int}
  (rule: ∀(i j:Int)(t u:Tok)(s:Shared)(Q:Value->Shared->Prop)(E:Value->Shared->Prop),Q (.int (g i j) s.toks) {s with toks:=s.toks+1}->wpAny (model X.prog X.w) X.A (f (.int i t) (.int j u)) Q E s):
  OpR X f (rI0 fun i j=> .int (g i j)):=by
 intro pins s σ H x y v u Q I rx ry h
 obtain⟨i,j,rfl,rfl,q⟩:=h
 obtain⟨t,rfl⟩:=rx
 obtain⟨t',rfl⟩:=ry
 exact rule i j t t' s _ _ ⟨.int (g i j),H,I.tok _,⟨_,rfl⟩,q⟩
theorem aWv {f:Value->Value->Sem Value}{g:Int->Int->Bool}
  (rule: ∀(i j:Int)(t u:Tok)(s:Shared)(Q:Value->Shared->Prop)(E:Value->Shared->Prop),Q (.bool (g i j)) s->wpAny (model X.prog X.w) X.A (f (.int i t) (.int j u)) Q E s):
  OpR X f (rI0 fun i j=> .bl (g i j)):=by
 intro pins s σ H x y v u Q I rx ry h
 obtain⟨i,j,rfl,rfl,q⟩:=h
 obtain⟨t,rfl⟩:=rx
 obtain⟨t',rfl⟩:=ry
 exact rule i j t t' s _ _ ⟨.bl (g i j),H,I,rfl,q⟩
noncomputable def bEq (i j:Int):Prop:=0<=j/\j<=1000000/\i.natAbs<2^64
noncomputable def aU0 (i j:Int):Prop:=(-(2^64)<i/\i<2^64)\/(-(2^64)<j/\j<2^64)
theorem aU0.ok {i j:Int}(h:aU0 i j):IntMulOk i j:=by
 rcases h with ⟨h1,h2⟩|⟨h1,h2⟩
 .exact .of_left (intBits_le_64 h1 h2)
 .exact .of_right (intBits_le_64 h1 h2)
theorem fH:OpR X (binaryOp .Add) (rI0 fun i j=> .int (i+j)):=bCk fun _ _ _ _ _ _ _ q=>add_int q
theorem sZ:OpR X (binaryOp .Sub) (rI0 fun i j=> .int (i-j)):=bCk fun _ _ _ _ _ _ _ q=>sub_int q
theorem aI9:OpR X (binaryOp .Mult) (rI aU0 fun i j=> .int (i*j)):=opI fun _ _ _ _ _ _ _ hc q=>mul_int q hc.ok
theorem aU1:OpR X (binaryOp .Mod) (rI (fun _ j=>0<j) fun i j=> .int (i%j)):=opI fun i j _ _ _ _ _ hc q=>by
 have h1:(0:Int)<j:=hc
 exact mod_int' (by lia) (by rw[Int.fmod_eq_emod_of_nonneg i (by lia)];exact q)
theorem aU2:OpR X (binaryOp .Pow) (rI bEq fun i j=> .int (i^j.toNat)):=opI fun _ _ _ _ _ _ _ hc q=>pow_int_small hc.1 hc.2.1 hc.2.2 q
theorem unI {f:Value->Sem Value}{g:Int->Int}
  (rule: ∀(i:Int)(t:Tok)(s:Shared)(Q:Value->Shared->Prop)(E:Value->Shared->Prop),Q (.int (g i) s.toks) {s with toks:=s.toks+1}->wpAny (model X.prog X.w) X.A (f (.int i t)) Q E s):
  UnR X f (rU fun i=> .int (g i)):=by
 intro pins s σ H x v Q I rx h
 obtain⟨i,rfl,q⟩:=h
 obtain⟨t,rfl⟩:=rx
 exact rule i t s _ _ ⟨.int (g i),H,I.tok _,⟨_,rfl⟩,q⟩
theorem zU:UnR X (unaryOp .USub) (rU fun i=> .int (-i)):=unI fun _ _ _ _ _ q=>neg_int q
end
noncomputable def aWw:V->V->Bool
 | .non,.non=>true| .non,.int _=>true| .int _,.non=>true| .non,.bl _=>true| .bl _,.non=>true| .non,.str _=>true| .str _,.non=>true
 | .int _,.int _=>true| .bl _,.bl _=>true| .str _,.str _=>true| .byt _,.byt _=>true
 | .int _,.str _=>true| .str _,.int _=>true| .bl _,.str _=>true| .str _,.bl _=>true
 |_,_=>false
noncomputable def rEq:R2:=fun x y H Q=>aWw x y=true/\Q (.bl (decide (x=y))) H
noncomputable def rNe:R2:=fun x y H Q=>aWw x y=true/\Q (.bl (!decide (x=y))) H
theorem aQ4 {i j:Int}:decide (V.int i=V.int j)=(i==j):=by
 rw[Bool.eq_iff_iff]
 simp
theorem aU3 {i j:Bool}:decide (V.bl i=V.bl j)=(i==j):=by
 rw[Bool.eq_iff_iff]
 simp
theorem aQ5 {i j:Str}:decide (V.str i=V.str j)=(i==j):=by
 rw[Bool.eq_iff_iff]
 simp
theorem aQ6 {i j:Array UInt8}:decide (V.byt i=V.byt j)=(i.toList==j.toList):=by
 rw[Bool.eq_iff_iff]
 cases i
 cases j
 simp
section
variable{X:Cx}{a b c:Expr}{ta tb tc:TE}{pos:Pos}
theorem fJ {pins:List (Addr×Obj)}{σ:St}{H:Hp}{s:Shared}{Q:VK}{k k':Bool}(I:Inv X pins σ H s)(q:Q (.bl k) H)(e:k=k'):EP X pins σ Q (.bool k') s:=by
 subst e
 exact⟨.bl k,H,I,rfl,q⟩
theorem cT:OpR X (compareOp .Eq) rEq:=by
 intro pins s σ H x y v u Q I rx ry h
 obtain⟨hs,q⟩:=h
 cases x with
 |non=>
  cases rx
  cases y with
  |non=>cases ry;exact PySem.EqNone.eq_none_none (fJ I q (by simp))
  |bl j=>cases ry;exact PySem.EqNone.eq_none_bool (fJ I q (by simp))
  |int j=>obtain⟨t',rfl⟩:=ry;exact PySem.EqNone.eq_none_int (fJ I q (by simp))
  |str j=>obtain⟨t',rfl⟩:=ry;exact PySem.EqNone.eq_none_str (fJ I q (by simp))
  |_=>exact absurd (show false=true from hs) Bool.false_ne_true
 |bl i=>
  cases rx
  cases y with
  |non=>cases ry;exact PySem.EqNone.eq_bool_none (fJ I q (by simp))
  |bl j=>cases ry;exact eq_bool (fJ I q aU3)
  |str j=>obtain⟨t',rfl⟩:=ry;exact PySem.EqMixed.eq_bool_str (fJ I q (by simp))
  |_=>exact absurd (show false=true from hs) Bool.false_ne_true
 |int i=>
  obtain⟨t,rfl⟩:=rx
  cases y with
  |non=>cases ry;exact PySem.EqNone.eq_int_none (fJ I q (by simp))
  |int j=>obtain⟨t',rfl⟩:=ry;exact eq_int (fJ I q aQ4)
  |str j=>obtain⟨t',rfl⟩:=ry;exact PySem.EqMixed.eq_int_str (fJ I q (by simp))
  |_=>exact absurd (show false=true from hs) Bool.false_ne_true
 |str i=>
  obtain⟨t,rfl⟩:=rx
  cases y with
  |non=>cases ry;exact PySem.EqNone.eq_str_none (fJ I q (by simp))
  |bl j=>cases ry;exact PySem.EqMixed.eq_str_bool (fJ I q (by simp))
  |int j=>obtain⟨t',rfl⟩:=ry;exact PySem.EqMixed.eq_str_int (fJ I q (by simp))
  |str j=>obtain⟨t',rfl⟩:=ry;exact eq_str (fJ I q aQ5)
  |_=>exact absurd (show false=true from hs) Bool.false_ne_true
 |byt i=>
  obtain⟨t,rfl⟩:=rx
  cases y with
  |byt j=>obtain⟨t',rfl⟩:=ry;exact PySem.W.eq_bytes (fJ I q aQ6)
  |_=>exact absurd (show false=true from hs) Bool.false_ne_true
 |_=>cases y <;>exact absurd (show false=true from hs) Bool.false_ne_true
theorem aQ7:OpR X (compareOp .NotEq) rNe:=by
 intro pins s σ H x y v u Q I rx ry h
 obtain⟨hs,q⟩:=h
 cases x with
 |non=>
  cases rx
  cases y with
  |non=>cases ry;exact PySem.EqNone.ne_none_none (fJ I q (by simp))
  |bl j=>cases ry;exact PySem.EqNone.ne_none_bool (fJ I q (by simp))
  |int j=>obtain⟨t',rfl⟩:=ry;exact PySem.EqNone.ne_none_int (fJ I q (by simp))
  |str j=>obtain⟨t',rfl⟩:=ry;exact PySem.EqNone.ne_none_str (fJ I q (by simp))
  |_=>exact absurd (show false=true from hs) Bool.false_ne_true
 |bl i=>
  cases rx
  cases y with
  |non=>cases ry;exact PySem.EqNone.ne_bool_none (fJ I q (by simp))
  |bl j=>cases ry;exact ne_bool (fJ I q (congrArg not aU3))
  |str j=>obtain⟨t',rfl⟩:=ry;exact PySem.EqMixed.ne_bool_str (fJ I q (by simp))
  |_=>exact absurd (show false=true from hs) Bool.false_ne_true
 |int i=>
  obtain⟨t,rfl⟩:=rx
  cases y with
  |non=>cases ry;exact PySem.EqNone.ne_int_none (fJ I q (by simp))
  |int j=>obtain⟨t',rfl⟩:=ry;exact ne_int (fJ I q (congrArg not aQ4))
  |str j=>obtain⟨t',rfl⟩:=ry;exact PySem.EqMixed.ne_int_str (fJ I q (by simp))
  |_=>exact absurd (show false=true from hs) Bool.false_ne_true
 |str i=>
  obtain⟨t,rfl⟩:=rx
  cases y with
  |non=>cases ry;exact PySem.EqNone.ne_str_none (fJ I q (by simp))
  |bl j=>cases ry;exact PySem.EqMixed.ne_str_bool (fJ I q (by simp))
  |int j=>obtain⟨t',rfl⟩:=ry;exact PySem.EqMixed.ne_str_int (fJ I q (by simp))
  |str j=>obtain⟨t',rfl⟩:=ry;exact ne_str (fJ I q (congrArg not aQ5))
  |_=>exact absurd (show false=true from hs) Bool.false_ne_true
 |byt i=>
  obtain⟨t,rfl⟩:=rx
  cases y with
  |byt j=>obtain⟨t',rfl⟩:=ry;exact PySem.W.ne_bytes (fJ I q (congrArg not aQ6))
  |_=>exact absurd (show false=true from hs) Bool.false_ne_true
 |_=>cases y <;>exact absurd (show false=true from hs) Bool.false_ne_true
theorem KQ:OpR X (compareOp .Lt) (rI0 fun i j=> .bl (decide (i<j))):=aWv fun _ _ _ _ _ _ _ q=>lt_int q
theorem aCm:OpR X (compareOp .LtE) (rI0 fun i j=> .bl (decide (i<=j))):=aWv fun _ _ _ _ _ _ _ q=>le_int q
theorem xK:OpR X (compareOp .Gt) (rI0 fun i j=> .bl (decide (j<i))):=aWv fun _ _ _ _ _ _ _ q=>gt_int q
theorem aU4:OpR X (compareOp .GtE) (rI0 fun i j=> .bl (decide (j<=i))):=aWv fun _ _ _ _ _ _ _ q=>ge_int q
theorem U5:OpR X (compareOp .Is) (fun x y H Q=>y= .non/\Q (.bl (decide (x= .non))) H):=by
 intro pins s σ H x y v u Q I rx ry h
 obtain⟨rfl,q⟩:=h
 cases ry
 refine is_none_gen (fJ I q ?_)
 cases x <;>first
  |(cases rx;rfl)
  |(obtain⟨t,rfl⟩:=rx;rfl)
theorem aWx:OpR X (compareOp .IsNot) (fun x y H Q=>y= .non/\Q (.bl (!decide (x= .non))) H):=by
 intro pins s σ H x y v u Q I rx ry h
 obtain⟨rfl,q⟩:=h
 cases ry
 refine isnot_none_gen (fJ I q ?_)
 cases x <;>first
  |(cases rx;rfl)
  |(obtain⟨t,rfl⟩:=rx;rfl)
theorem bD (b:Expr){op:CmpOp}(h:op≠ .In:=by decide)(h2:op≠ .NotIn:=by decide):behindInMarks op b=false:=by
 have e1:(op==CmpOp.In)=false:=by cases op <;>first|rfl|exact absurd rfl h
 have e2:(op==CmpOp.NotIn)=false:=by cases op <;>first|rfl|exact absurd rfl h2
 cases b <;>simp[behindInMarks,e1,e2]
theorem HJ {op:CmpOp}{r:R2}(ho:OpR X (compareOp op) r)(ha:PE X a ta)(hb:PE X b tb)(hm:behindInMarks op b=false):PE X (.Compare a [op] [b] pos) (tOp r ta tb):=by
 intro pins s σ H Q I h
 exact wpAny_Compare1 (bA6 ha hb I h fun v u s2 x y H2 I2 rx ry q=>ho pins s2 σ H2 x y v u Q I2 rx ry q) hm
noncomputable def aQ8 (t:TE):TT:=fun σ H Q=>t σ H fun x H'=> ∃k,x= .bl k/\Q k H'
theorem aW {op:CmpOp}{r:R2}(ho:OpR X (compareOp op) r)(ha:PE X a ta)(hb:PE X b tb)(hm:behindInMarks op b=false):PT X (.Compare a [op] [b] pos) (aQ8 (tOp r ta tb)):=by
 intro pins s σ H Q I h
 refine wpAny_isTrue_Compare1 (thn (ha pins s σ H _ I h) fun v s1⟨x,H1,I1,r1,q1⟩=>thn (hb pins s1 σ H1 _ I1 q1) fun u s2⟨y,H2,I2,r2,q2⟩=>
  thn (ho pins s2 σ H2 x y v u _ I2 r1 r2 q2) fun c s3⟨z,H3,I3,r3,k,e,q3⟩=>?_) hm
 subst e
 cases r3
 exact wpAny_truthy_bool ⟨H3,I3,q3⟩
noncomputable def aO8 (r r':R2)(ta tb tc:TE):TE:=fun σ H Q=>ta σ H fun x H1=>tb σ H1 fun y H2=>r x y H2 fun z H3=> ∃k,z= .bl k/\
 (if k=true then tc σ H3 fun w' H4=>r' y w' H4 Q else Q (.bl false) H3)
theorem aU5 {op op':CmpOp}{r r':R2}(ho:OpR X (compareOp op) r)(ho':OpR X (compareOp op') r')(ha:PE X a ta)(hb:PE X b tb)(hc:PE X c tc)
  (hm:lastMarks [op,op'] [b,c]=false:=by with_unfolding_all rfl):PE X (.Compare a [op,op'] [b,c] pos) (aO8 r r' ta tb tc):=by
 intro pins s σ H Q I h
 refine Compare_chain (thn (ha pins s σ H _ I h) fun v s1⟨x,H1,I1,r1,q1⟩=>chain_link (thn (hb pins s1 σ H1 _ I1 q1) fun u s2⟨y,H2,I2,r2,q2⟩=>
  thn (ho pins s2 σ H2 x y v u _ I2 r1 r2 q2) fun d s3⟨z,H3,I3,r3,k,e,q3⟩=>?_)) hm
 subst e
 cases r3
 refine wpAny_truthy_bool ?_
 cases k with
 |false=>exact ite_ff ⟨.bl false,H3,I3,rfl,q3⟩
 |true=>exact ite_tt (chain_last (thn (hc pins s3 σ H3 _ I3 q3) fun w' s4⟨z',H4,I4,r4,q4⟩=>ho' pins s4 σ H4 y z' u w' Q I4 r2 r4 q4))
theorem aLf {op op':CmpOp}{r r':R2}(ho:OpR X (compareOp op) r)(ho':OpR X (compareOp op') r')(ha:PE X a ta)(hb:PE X b tb)(hc:PE X c tc)
  (hm:lastMarks [op,op'] [b,c]=false:=by with_unfolding_all rfl):PT X (.Compare a [op,op'] [b,c] pos) (aQ8 (aO8 r r' ta tb tc)):=by
 intro pins s σ H Q I h
 refine isTrue_chain (thn (ha pins s σ H _ I h) fun v s1⟨x,H1,I1,r1,q1⟩=>test_link (thn (hb pins s1 σ H1 _ I1 q1) fun u s2⟨y,H2,I2,r2,q2⟩=>
  thn (ho pins s2 σ H2 x y v u _ I2 r1 r2 q2) fun d s3⟨z,H3,I3,r3,k,e,q3⟩=>?_)) hm
 subst e
 cases r3
 refine wpAny_truthy_bool ?_
 cases k with
 |false=>
  obtain⟨k',e',q'⟩:=q3
  cases e'
  exact ite_ff ⟨H3,I3,q'⟩
 |true=>
  refine ite_tt (test_last (thn (hc pins s3 σ H3 _ I3 q3) fun w' s4⟨z',H4,I4,r4,q4⟩=>thn (ho' pins s4 σ H4 y z' u w' _ I4 r2 r4 q4) fun d' s5⟨z2,H5,I5,r5,k2,e2,q5⟩=>?_))
  subst e2
  cases r5
  exact wpAny_truthy_bool ⟨H5,I5,q5⟩
theorem aCn:(sizeLine:Nat)<2^63:=by rw[sizeLine_eq];decide
theorem vals1 {x:V}{us:List Value}(r:Vals [x] us): ∃u,us=[u]/\RelV x u:=by
 cases r with
 |cons r1 r2=>cases r2;exact⟨_,rfl,r1⟩
theorem vals2 {x y:V}{us:List Value}(r:Vals [x,y] us): ∃u w',us=[u,w']/\RelV x u/\RelV y w':=by
 cases r with
 |cons r1 r2=>
  cases r2 with
  |cons r3 r4=>cases r4;exact⟨_,_,rfl,r1,r3⟩
theorem R7 (hc:X.calm=true):aCl X (.builtin "max") (fun xs H Q=> ∃i j,xs=[.int i,.int j]/\Q (.int (if j>i then j else i)) H):=by
 intro pins s σ H xs us Q I r h
 obtain⟨i,j,rfl,q⟩:=h
 obtain⟨u,w',rfl,⟨t,rfl⟩,⟨t',rfl⟩⟩:=vals2 r
 refine max_two_ints (I.ok.hd hc) fun h' tk k=>⟨_,H,I.kept k,?_,q⟩
 by_cases hj:j>i
 .rw[if_pos hj,if_pos hj];exact⟨_,rfl⟩
 .rw[if_neg hj,if_neg hj];exact⟨_,rfl⟩
theorem Z6 (hc:X.calm=true):aCl X (.builtin "min") (fun xs H Q=> ∃i j,xs=[.int i,.int j]/\Q (.int (if j<i then j else i)) H):=by
 intro pins s σ H xs us Q I r h
 obtain⟨i,j,rfl,q⟩:=h
 obtain⟨u,w',rfl,⟨t,rfl⟩,⟨t',rfl⟩⟩:=vals2 r
 refine min_two_ints (I.ok.hd hc) fun h' tk k=>⟨_,H,I.kept k,?_,q⟩
 by_cases hj:j<i
 .rw[if_pos hj,if_pos hj];exact⟨_,rfl⟩
 .rw[if_neg hj,if_neg hj];exact⟨_,rfl⟩
end
end L2
namespace L2
open PySem PySem.Spec PyProof.Rows
structure aO9 (h:Heap)(x dx C:Addr)(mA:Str->Option Value):Prop where
 obj:h.get? x=some (PySem.W.instObj C dx)
 ns:h.Ns1 dx mA
 ne:dx≠x
theorem aRz {h:Heap}{dx:Addr}{mA:Str->Option Value}(n:h.Ns1 dx mA): ∃od,h.get? dx=some od/\ ∀name,PySem.W.lookIn name od=some (mA name):=by
 obtain⟨o,es,ep,ho,hd,hk,_,hm⟩:=n
 refine⟨o,ho,fun name=>?_⟩
 have e:=hm name
 unfold nsFind findBy at e
 rw[<- Array.find?_toList] at e
 unfold PySem.W.lookIn
 rw[hd]
 dsimp only
 split
 .rename_i y q
  rw[q] at e
  exact congrArg some e
 .rename_i q
  rw[q] at e
  have a:es.toList.any (·.refKey)=false:=by
   rw[List.any_eq_false]
   intro y hy
   obtain⟨z,t,hkey⟩:=hk y (Array.mem_toList_iff.mp hy)
   simp[DictEntry.refKey,hkey]
  have a': ¬es.toList.any (·.refKey)=true:=by rw[a];exact Bool.false_ne_true
  rw[if_neg a']
  exact congrArg some e
theorem aO9.look {h:Heap}{x dx C:Addr}{mA:Str->Option Value}(I:aO9 h x dx C mA): ∃od,PySem.W.InstAt h x (PySem.W.instObj C dx) C (some od)/\ ∀name,PySem.W.lookIn name od=some (mA name):=
 let ⟨od,ho,hl⟩:=aRz I.ns
 ⟨od,⟨I.obj,rfl,rfl,ho⟩,hl⟩
section
variable{prog:Program}{w:World}{A:Around}{E:Value->Shared->Prop}{s:Shared}{K:PySem.W.Frag}{x dx C f:Addr}{mA:Str->Option Value}{name:Str}{v:Value}
theorem get_map {expr:Bool}{Q:Value->Shared->Prop}(X:K.In s.heap)(I:aO9 s.heap x dx C mA)(hg:PySem.W.plainGet K C name=true)(hh:PySem.W.hasDictIn K C=true)
  (ha:PySem.W.findIn K (.ref C) name=some none) (hv:mA name=some v) (hv':PySem.W.handedIn v=true) (h:Q v {s with toks:=s.toks+1}):
  wpAny (model prog w) A (getAttr (.ref x) name expr) Q E s:=by
 obtain⟨od,J,hl⟩:=I.look
 exact PySem.W.get_value X J (PySem.W.plainGet_of hg).1 (PySem.W.findObj_own hh ha rfl (by rw[hl,hv])) hv' h
theorem aU6 {pl:Sem Bool}{Q:Value×List Value->Shared->Prop}(X:K.In s.heap)(I:aO9 s.heap x dx C mA)(hg:PySem.W.plainGet K C name=true)
  (hf:PySem.W.findIn K (.ref C) name=some (some (.ref f))) (ht:PySem.W.isFn K (.ref f)=true) (hv:mA name=none) (h:Q (.ref f,[.ref x]) s):
  wpAny (model prog w) A (getMethod (.ref x) name pl) Q E s:=by
 obtain⟨od,J,hl⟩:=I.look
 exact PySem.W.method_fn X J (PySem.W.plainGet_of hg).1 (PySem.W.plainGet_of hg).2 hf (beq_iff_eq.mp ht) (by show (PySem.W.lookIn name od).map (·.isSome)=some false;rw[hl,hv];rfl) h
theorem aWy {ns:List Str}{Q:Unit->Shared->Prop}(X:K.In s.heap)(I:aO9 s.heap x dx C mA)
  (hs:PySem.W.findIn K (.ref C) "__setattr__"=some (some (.builtin "object.__setattr__"))) (hp:PySem.W.plainOver K C=true) (ht:PySem.W.takerIn K C name=some none) (hh:PySem.W.hasDictIn K C=true)
  (hw:PySem.Within mA ns) (hsz:ns.length<=sizeLine)
  (h: ∀h',aO9 h' x dx C (fun y=>if y=name then some v else mA y)->Heap.SameBut dx s.heap h'->Q () {s with heap:=h',toks:=s.toks+2}):
  wpAny (model prog w) A (setAttr (.ref x) name v) Q E s:=by
 obtain⟨od,J,hl⟩:=I.look
 refine PySem.W.set_plain X J hs (PySem.W.osa_open (s:={s with toks:=s.toks+1}) (r:=none) X J hp ht fun b=>?_)
 obtain⟨cd,hc,hd'⟩:=PySem.W.any_some hh
 have hx:s.heap.get? x=some ⟨.ref C,some dx,.plain,#[]⟩:=I.obj
 refine wpAny_bind (wpAny_pure (wpAny_bind (wpAny_bind (wpAny_loadPart hx (wpAny_bind (PySem.W.Looks.here (s:={s with toks:=s.toks+1}) (PySem.W.looks_clsIn X hc) ?_))))))
 rw[hd']
 refine wpAny_pure (a:=some dx) (wpAny_bind (wpAny_pure (wpAny_bind ?_)))
 refine wpAny_nsSet1 (s:={s with toks:=s.toks+1}) I.ns fun h' hn2 hs2=>?_
 obtain⟨oD,esD,epD,hoD,hdD,hcD⟩:=hn2.count (PySem.Within.cons name v hw)
 refine wpAny_bind (wpAny_lookBehind hoD (by rw[hdD];exact pastItsLine_dict (Nat.le_trans hcD (by rw[List.length_cons];lia))) ?_)
 exact wpAny_pure (h _ ⟨(hs2.2 _ (Ne.symm I.ne)).trans I.obj,hn2,I.ne⟩ hs2)
theorem aU7 {R:Result->Shared->Prop}{vs:List Value}{kw:List (Str×Value)}(X:K.In s.heap)(hm:PySem.W.makesIn K C=true)
  (hi:PySem.W.findIn K (.ref C) "__init__"=some (some (.ref f))) (hf:PySem.W.typeIn K (.ref f)=some (.type "function"))
  (h:codeAny (model prog w) (A.under (.builtin "type.__call__" ⟨.ref C::vs,kw⟩)) (.call (.ref f) ⟨.ref (s.heap.objs.size+1)::vs,kw⟩) (PySem.W.InitBack (s.heap.objs.size+1) R)
   {s with heap:=(s.heap.push PySem.W.emptyDict).push (PySem.W.instObj C s.heap.objs.size)}):
  codeAny (model prog w) A (.call (.ref C) ⟨vs,kw⟩) R s:=by
 obtain⟨hh,g,d,t,os⟩:=s
 exact PySem.W.make_core (PySem.W.makes_of X hm) (PySem.W.looks_findIn X hi) (fun self=>PySem.W.bind_fn X self hf) (.inl rfl) h
end
noncomputable def lX (f:Str)(v:V):List (Str×V)->List (Str×V)
 |[]=>[(f,v)]
 |(g,x)::r=>if g=f then(g,v)::r else(g,x)::lX f v r
theorem aAp (f g:Str)(v:V): ∀fs:List (Str×V),(lX f v fs).lookup g=if g=f then some v else fs.lookup g
 |[]=>by
  show List.lookup g [(f,v)]=_
  by_cases h:g=f
  .have hb:(g==f)=true:=beq_iff_eq.mpr h
   simp only[List.lookup,hb,if_pos h]
  .have hb:(g==f)=false:=beq_eq_false_iff_ne.mpr h
   simp only[List.lookup,hb,if_neg h]
 |(k,x)::r=>by
  have ih:=aAp f g v r
  rw[show lX f v ((k,x)::r)=(if k=f then(k,v)::r else(k,x)::lX f v r) from rfl]
  by_cases hk:k=f
  .rw[if_pos hk]
   by_cases h:g=k
   .have hb:(g==k)=true:=beq_iff_eq.mpr h
    simp only[List.lookup,hb,if_pos (h.trans hk)]
   .have hb:(g==k)=false:=beq_eq_false_iff_ne.mpr h
    simp only[List.lookup,hb,if_neg (fun e:g=f=>h (e.trans hk.symm))]
  .rw[if_neg hk]
   by_cases h:g=k
   .have hb:(g==k)=true:=beq_iff_eq.mpr h
    simp only[List.lookup,hb,if_neg (fun e:g=f=>hk (h.symm.trans e))]
   .have hb:(g==k)=false:=beq_eq_false_iff_ne.mpr h
    simp only[List.lookup,hb]
    exact ih
theorem Z7 (f:Str)(v:V): ∀fs:List (Str×V),f∈(lX f v fs).map (·.1)/\ ∀g,g∈fs.map (·.1)->g∈(lX f v fs).map (·.1)
 |[]=>⟨by simp[lX],fun g h=>by simp at h⟩
 |(k,x)::r=>by
  obtain⟨i1,i2⟩:=Z7 f v r
  rw[show lX f v ((k,x)::r)=(if k=f then(k,v)::r else(k,x)::lX f v r) from rfl]
  by_cases hk:k=f
  .rw[if_pos hk]
   subst hk
   exact⟨by simp,fun g h=>by simpa using h⟩
  .rw[if_neg hk]
   refine⟨?_,fun g h=>?_⟩
   .rw[List.map_cons]
    exact List.mem_cons_of_mem _ i1
   .rw[List.map_cons] at h ⊢
    rcases List.mem_cons.mp h with e|e
    .exact List.mem_cons.mpr (.inl e)
    .exact List.mem_cons_of_mem _ (i2 g e)
theorem aAq (f:Str)(v:V): ∀fs:List (Str×V),(lX f v fs).length<=fs.length+1
 |[]=>by simp[lX]
 |(k,x)::r=>by
  have ih:=aAq f v r
  rw[show lX f v ((k,x)::r)=(if k=f then(k,v)::r else(k,x)::lX f v r) from rfl]
  by_cases hk:k=f
  .rw[if_pos hk,List.length_cons,List.length_cons];lia
  .rw[if_neg hk,List.length_cons,List.length_cons];lia
theorem RZ.some_of {v:V}{o:Option Value}(r:RZ (some v) o): ∃u,o=some u/\RelV v u:=by
 cases o with
 |none=>exact(show False from r).elim
 |some u=>exact⟨u,rfl,r⟩
theorem RZ.none_of {o:Option Value}(r:RZ none o):o=none:=by
 cases o with
 |none=>rfl
 |some u=>exact(show False from r).elim
theorem aS0 {v:V}{u:Value}(r:RelV v u):PySem.W.handedIn u=true:=by
 cases v with
 |non=>cases (show u=Value.none from r);rfl
 |bl b=>cases (show u=Value.bool b from r);rfl
 |int i=>obtain⟨t,e⟩:=(show ∃t,u=Value.int i t from r);cases e;rfl
 |str x=>obtain⟨t,e⟩:=(show ∃t,u=Value.str x t from r);cases e;rfl
 |byt b=>obtain⟨t,e⟩:=(show ∃t,u=Value.bytes b t from r);cases e;rfl
 |flt b=>obtain⟨t,e⟩:=(show ∃t,u=Value.float b t from r);cases e;rfl
 |ref a=>cases (show u=Value.ref a from r);rfl
 |ty n=>cases (show u=Value.type n from r);rfl
section
variable{P:Program}{w:World}{H H':Hp}{h h':Heap}{a C dx:Addr}{fs fs':List (Str×V)}
theorem aIa (hok:HOk P w H h)(e:H a=some (.ins C dx fs)): ∃mA,aO9 h a dx C mA/\(∀f,RZ (fs.lookup f) (mA f))/\PySem.Within mA (fs.map (·.1))/\fs.length<=1000/\H dx=some (.own a):=by
 obtain⟨d,z,ne,ob,mA,n,r,q⟩:=(show lJ P w H h a (.ins C dx fs) from hok a _ e)
 exact⟨mA,⟨ob,n,ne⟩,r,q,z,d⟩
end
structure Cls (K:PySem.W.Frag)(C:Addr):Prop where
 pg:PySem.W.plainGet K C Str.empty=true
 hd:PySem.W.hasDictIn K C=true
 po:PySem.W.plainOver K C=true
 sa:PySem.W.findIn K (.ref C) "__setattr__"=some (some (.builtin "object.__setattr__"))
theorem Cls.get {K:PySem.W.Frag}{C:Addr}(c:Cls K C)(f:Str):PySem.W.plainGet K C f=true:=c.pg
noncomputable def cW (K:PySem.W.Frag)(C:Addr)(f:Str):Prop:=PySem.W.findIn K (.ref C) f=some none
theorem cW.taker {K:PySem.W.Frag}{C:Addr}{f:Str}(n:cW K C f):PySem.W.takerIn K C f=some none:=by
 unfold PySem.W.takerIn
 rw[show PySem.W.findIn K (.ref C) f=some none from n]
 rfl
structure Con (K:PySem.W.Frag)(C:Addr)(f:Str)(v:V)(u:Value):Prop where
 at_:PySem.W.findIn K (.ref C) f=some (some u)
 rel:RelV v u
 get:PySem.W.specialIn K u "__get__"=some none
 cp:PySem.W.copiedNames.contains f=false
structure Meth (K:PySem.W.Frag)(C:Addr)(m:Str)(f:Addr):Prop where
 at_:PySem.W.findIn K (.ref C) m=some (some (.ref f))
 fn:PySem.W.isFn K (.ref f)=true
 kp:PySem.W.keepIn K (.ref f)=true
section
variable{X:Cx}{pins:List (Addr×Obj)}{σ:St}{H:Hp}{s:Shared}{a C dx:Addr}{fs:List (Str×V)}{f:Str}{v:V}{A:Around}{E:Value->Shared->Prop}
theorem aCo {b:Bool}{Q:Value->Shared->Prop}(I:Inv X pins σ H s)(e:H a=some (.ins C dx fs))(c:Cls X.K C)(n:cW X.K C f)(l:fs.lookup f=some v)
  (h: ∀u s',Inv X pins σ H s'->RelV v u->Q u s'):wpAny (model X.prog X.w) A (getAttr (.ref a) f b) Q E s:=by
 obtain⟨mA,O,r,_,_,_⟩:=aIa I.hok e
 obtain⟨u,hu,ru⟩:=RZ.some_of (v:=v) (o:=mA f) (by rw[<- l];exact r f)
 exact get_map I.kIn O (c.get f) c.hd n hu (aS0 ru) (h u _ (I.tok _) ru)
theorem aCp {m:Str}{g:Addr}{pl:Sem Bool}{Q:Value×List Value->Shared->Prop}(I:Inv X pins σ H s)(e:H a=some (.ins C dx fs))(c:Cls X.K C)(k:Meth X.K C m g)(l:fs.lookup m=none)
  (h:Q (.ref g,[.ref a]) s):wpAny (model X.prog X.w) A (getMethod (.ref a) m pl) Q E s:=by
 obtain⟨mA,O,r,_,_,_⟩:=aIa I.hok e
 have hn:mA m=none:=RZ.none_of (by rw[<- l];exact r m)
 exact aU6 I.kIn O (c.get m) k.at_ k.fn hn h
theorem aCq {y:V}{u:Value}{Q:Unit->Shared->Prop}(I:Inv X pins σ H s)(e:H a=some (.ins C dx fs))(c:Cls X.K C)(n:cW X.K C f)(hl:fs.length<1000)(ry:RelV y u)
  (h: ∀s',Inv X pins σ (upd H a (.ins C dx (lX f y fs))) s'->Q () s'):wpAny (model X.prog X.w) A (setAttr (.ref a) f u) Q E s:=by
 obtain⟨mA,O,r,wi,_,ho⟩:=aIa I.hok e
 have hz:(fs.map (·.1)).length<=sizeLine:=by rw[List.length_map,sizeLine_eq];lia
 refine aWy I.kIn O c.sa c.po n.taker c.hd wi hz fun h' O' sb=>h _ ?_
 have hd: ∃o,h'.get? dx=some o:=let ⟨o,_,_,e',_⟩:=O'.ns;⟨o,e'⟩
 refine I.write (x:=a) (e:=dx) (by rw[e];exact True.intro) (.inr ho) (fun b q hb z=>(sb.2 b hb).trans z) hd ?_
 refine⟨by rw[aM O.ne];exact ho,?_,O.ne,O'.obj,_,O'.ns,fun g=>?_,fun g hg=>?_⟩
 .have:=aAq f y fs;lia
 .show RZ ((lX f y fs).lookup g) (if g=f then some u else mA g)
  rw[aAp]
  by_cases q:g=f
  .rw[if_pos q,if_pos q];exact ry
  .rw[if_neg q,if_neg q];exact r g
 .by_cases q:g=f
  .rw[q];exact(Z7 f y fs).1
  .refine(Z7 f y fs).2 g (wi g fun z=>hg ?_)
   show (if g=f then some u else mA g)=none
   rw[if_neg q];exact z
theorem Inv.made (I:Inv X pins σ H s):Inv X pins σ (upd (upd H s.heap.objs.size (.own (s.heap.objs.size+1))) (s.heap.objs.size+1) (.ins C s.heap.objs.size []))
  {s with heap:=(s.heap.push PySem.W.emptyDict).push (PySem.W.instObj C s.heap.objs.size)}:=by
 have e1:(s.heap.push PySem.W.emptyDict).get? s.heap.objs.size=some PySem.W.emptyDict:=Heap.get?_push_size s.heap rfl
 have e2:((s.heap.push PySem.W.emptyDict).push (PySem.W.instObj C s.heap.objs.size)).get? (s.heap.objs.size+1)=some (PySem.W.instObj C s.heap.objs.size):=by
  have:=Heap.get?_push_size (s.heap.push PySem.W.emptyDict) (o:=PySem.W.instObj C s.heap.objs.size) rfl
  rwa [Heap.size_push] at this
 have e3:(s.heap.push PySem.W.emptyDict).Ns s.heap.objs.size (fun _=>none):=⟨PySem.W.emptyDict,#[],_,e1,rfl,(fun e he=>absurd he (by simp)),fun _=>rfl⟩
 have I1:=I.laid (a:=s.heap.objs.size) (o:= .own (s.heap.objs.size+1)) (h':=s.heap.push PySem.W.emptyDict) (t':=s.toks) (fun b u q=>Heap.get?_push_of_some _ q) (Nat.le_refl _) ⟨_,e1⟩
 refine I1.laid (a:=s.heap.objs.size+1) (o:= .ins C s.heap.objs.size []) (t':=s.toks) (fun b u q=>Heap.get?_push_of_some _ q) (Nat.le_of_eq (Heap.size_push _ _)) ?_
 have ne:s.heap.objs.size≠s.heap.objs.size+1:=Nat.ne_of_lt (Nat.lt_succ_self _)
 refine⟨by rw[aM ne,aH],Nat.zero_le _,ne,e2,fun _=>none,(Heap.Ns1.of_empty e3).at fun o q=>Heap.get?_push_of_some _ q,fun _=>True.intro,fun y hy=>absurd rfl hy⟩
theorem aWz {prog:Program}{w:World}{env:Env}{e:Expr}{f:Str}{pos:Pos}{s:Shared}{Q:Value->Shared->Prop}(hb:attributeBase e f env (eval e env)=eval e env)
  (h:wpAny (model prog w) A (eval e env) (fun o s₁=>wpAny (model prog w) A (getAttr o f true) Q E s₁) E s):wpAny (model prog w) A (eval (.Attribute e f pos) env) Q E s:=
 Attribute_any_ h (by rw[arm_eval_Attribute,hb])
end
noncomputable def bCl (K:PySem.W.Frag)(ta:TE)(f:Str):TE:=fun σ H Q=>ta σ H fun x H1=> ∃a C dx fs v,x= .ref a/\H1 a=some (.ins C dx fs)/\Cls K C/\cW K C f/\fs.lookup f=some v/\Q v H1
noncomputable def bCm (K:PySem.W.Frag)(ta tv:TE)(f:Str):TS:=fun D σ H=>tv σ H fun y H1=>ta σ H1 fun x H2=> ∃a C dx fs,x= .ref a/\H2 a=some (.ins C dx fs)/\Cls K C/\cW K C f/\fs.length<1000/\
 D.nx σ (upd H2 a (.ins C dx (lX f y fs)))
noncomputable def bCn (X:Cx)(op:Operator)(rd:V->V->Hp->VK->Prop):Prop:=
 ∀(pins:List (Addr×Obj))(s:Shared)(σ:St)(H:Hp)(x y:V)(u v:Value)(Q:VK),Inv X pins σ H s->RelV x u->RelV y v->rd x y H Q->wpAny (model X.prog X.w) X.A (inplaceOp op u v) (EP X pins σ Q) X.xe s
noncomputable def aQ9 (K:PySem.W.Frag)(ta tv:TE)(rd:V->V->Hp->VK->Prop)(f:Str):TS:=fun D σ H=>ta σ H fun x H1=> ∃a C dx fs v,x= .ref a/\H1 a=some (.ins C dx fs)/\Cls K C/\cW K C f/\fs.lookup f=some v/\
 tv σ H1 fun y H2=>rd v y H2 fun z H3=> ∃dx' fs',H3 a=some (.ins C dx' fs')/\fs'.length<1000/\D.nx σ (upd H3 a (.ins C dx' (lX f z fs')))
section
variable{X:Cx}{o e value:Expr}{f:Str}{pos pos' tpos:Pos}{ta tv:TE}
theorem bG (he:PE X e ta)(hb:attributeBase e f X.env (eval e X.env)=eval e X.env):PE X (.Attribute e f pos) (bCl X.K ta f):=by
 intro pins s σ H Q I h
 refine aWz hb (thn (he pins s σ H _ I h) fun u s1⟨x,H1,I1,rx,a,C,dx,fs,v,ex,ea,c,n,l,q⟩=>?_)
 subst ex
 obtain rfl:u=Value.ref a:=rx
 exact aCo I1 ea c n l fun u' s2 I2 ru=>⟨v,H1,I2,ru,q⟩
theorem fW (ha:PE X o ta)(hv:PE X value tv)(hs:swapsWith value (some (.Attribute o f pos')) pos.line X.env=pure false):PS X (.Assign [.Attribute o f pos'] value pos) (bCm X.K ta tv f):=by
 intro pins s σ H D I h
 refine plainObj_wpAny_Assign_Attribute (thn (hv pins s σ H _ I h) fun u s1⟨y,H1,I1,ry,q⟩=>thn (ha pins s1 σ H1 _ I1 q) fun ov s2⟨x,H2,I2,rx,a,C,dx,fs,ex,ea,c,n,l,q2⟩=>?_) hs
 subst ex
 obtain rfl:ov=Value.ref a:=rx
 exact aCq I2 ea c n l ry fun s3 I3=>⟨σ,_,I3,q2⟩
theorem R8 {op:Operator}{rd:V->V->Hp->VK->Prop}(ha:PE X o ta)(hv:PE X value tv)(hop:bCn X op rd):PS X (.AugAssign (.Attribute o f tpos) op value pos) (aQ9 X.K ta tv rd f):=by
 intro pins s σ H D I h
 refine wpAny_AugAssign_AttributeAny (thn (ha pins s σ H _ I h) fun ov s1⟨x,H1,I1,rx,a,C,dx,fs,v,ex,ea,c,n,l,q⟩=>?_)
 subst ex
 obtain rfl:ov=Value.ref a:=rx
 refine aCo I1 ea c n l fun u s2 I2 ru=>thn (hv pins s2 σ H1 _ I2 q) fun w3 s3⟨y,H2,I3,ry,q3⟩=>thn (hop pins s3 σ H2 v y u w3 _ I3 ru ry q3) fun w4 s4⟨z,H3,I4,rz,dx',fs',ea',l',q4⟩=>?_
 exact aCq I4 ea' c n l' rz fun s5 I5=>⟨σ,_,I5,q4⟩
noncomputable def bCo:V->V->Hp->VK->Prop:=fun x y H Q=> ∃i j,x= .int i/\y= .int j/\Q (.int (i+j)) H
theorem aIb:bCn X .Add bCo:=by
 rintro pins s σ H x y u v Q I rx ry ⟨i,j,rfl,rfl,q⟩
 obtain⟨t,rfl⟩:=(show ∃t,u=Value.int i t from rx)
 obtain⟨t',rfl⟩:=(show ∃t',v=Value.int j t' from ry)
 exact PyProof.Rows.iadd_int ⟨.int (i+j),H,I.tok _,⟨_,rfl⟩,q⟩
end
section
variable{X:Cx}{pins:List (Addr×Obj)}{σ:St}{H:Hp}{s:Shared}{A:Around}{E:Value->Shared->Prop}{Q:Value->Shared->Prop}{c:Value}{b:Bool}
inductive aCr (K:PySem.W.Frag)(H:Hp):V->Value->Prop where
 |non:aCr K H .non (.type "NoneType")
 |bl (x:Bool):aCr K H (.bl x) (.type "bool")
 |int (i:Int):aCr K H (.int i) (.type "int")
 |str (x:Str):aCr K H (.str x) (.type "str")
 |flt (x:UInt64):aCr K H (.flt x) (.type "float")
 |lst {a:Addr} {xs:List V} (e:H a=some (.lst xs)):aCr K H (.ref a) (.type "list")
 |frz {a:Addr} {o:Obj} {xs:List V} (e:H a=some (.frz o (.lst xs))):aCr K H (.ref a) (.type "list")
 |tup {a:Addr} {xs:List V} (e:H a=some (.tup xs)):aCr K H (.ref a) (.type "tuple")
 |dK {a:Addr} {kvs:List (Key×V)} (e:H a=some (.dK kvs)):aCr K H (.ref a) (.type "dict")
 |dT {a:Addr} {kvs:List (List Key×V)} (e:H a=some (.dT kvs)):aCr K H (.ref a) (.type "dict")
 |ins {a C dx:Addr} {fs:List (Str×V)} (e:H a=some (.ins C dx fs)) (cl:Cls K C) (ha:PySem.W.findIn K (.ref C) "__class__"=some (some (.builtin "object.__class__")))
   (hn:PySem.W.specialIn K (.builtin "object.__class__") "__get__"=some (some (.builtin "getset_descriptor.__get__"))) (htk:PySem.W.takesIn K (.builtin "object.__class__")=some true)
   (hm:PySem.W.mroIn K C (.type "object")=some true):aCr K H (.ref a) (.ref C)
end
end L2
namespace L2
open PySem PySem.Spec PyProof.Rows
structure sV (k:Nat)(A:Around):Prop where
 hd:A.handled=none
 dp:A.depth+3*k+5<recursionLimit
 un:A.units+16*k+200<cLine
theorem sV.mono {j k:Nat}{A:Around}(r:sV k A)(h:j<=k):sV j A:=⟨r.hd,by have:=r.dp;lia,by have:=r.un;lia⟩
theorem sV.deeper {k:Nat}{A:Around}(r:sV (k+1) A)(env:Env):sV k (A.deeper env):=
 ⟨r.hd,by have:=r.dp;show A.depth+1+3*k+5<_;lia,by have:=r.un;show A.units+3+16*k+200<_;lia⟩
theorem aOa {A:Around}{C:Addr}{us:List Value}{kw:List (Str×Value)}:(A.under (.builtin "type.__call__" ⟨.ref C::us,kw⟩)).depth=A.depth+1:=by
 first|rfl|simp[Around.under,Code.weight,Code.isCreation,Code.isGuard,Code.isCaller,Code.frames,Code.isFrame,guardIds]
theorem aOb {A:Around}{C:Addr}{us:List Value}{kw:List (Str×Value)}:(A.under (.builtin "type.__call__" ⟨.ref C::us,kw⟩)).units=A.units+1:=by
 first|rfl|simp[Around.under,Code.cUnits,Code.frames,Code.isFrame]
theorem sV.make {k:Nat}{A:Around}(r:sV (k+1) A)(C:Addr)(us:List Value)(kw:List (Str×Value)):sV k (A.under (.builtin "type.__call__" ⟨.ref C::us,kw⟩)):=
 ⟨r.hd,by have:=r.dp;rw[aOa];lia,by have:=r.un;rw[aOb];lia⟩
theorem sV.depth {k:Nat}{A:Around}(r:sV k A):A.depth<recursionLimit:=by have:=r.dp;lia
theorem sV.units {k:Nat}{A:Around}(r:sV k A):A.units+64<cLine:=by have:=r.un;lia
noncomputable def aFb:TA:=fun _ H Q=>Q [] H
noncomputable def aCs (ta:TE)(tr:TA):TA:=fun σ H Q=>ta σ H fun x H1=>tr σ H1 fun xs H2=>Q (x::xs) H2
section
variable{X:Cx}{e:Expr}{es:List Expr}{te:TE}{t:TA}{pos:Pos}
theorem aD:PA X [] aFb:=fun _ _ _ _ H Q I h=>Calls.spliced_nil ⟨[],H,I,.nil,h⟩
theorem aA (ha:PE X e te)(hr:PA X es t)(hs:starEach (e::es) X.env=(false,eval e X.env)::starEach es X.env:=by rfl):PA X (e::es) (aCs te t):=by
 intro pos pins s σ H Q I h
 rw[hs]
 show wpAny _ _ (spliced ((false,eval e X.env)::backTo pos (starEach es X.env))) _ _ s
 refine Calls.spliced_cons (thn (ha pins s σ H _ I h) fun u s1⟨x,H1,I1,r1,q1⟩=>?_)
 exact thn (hr pos pins s1 σ H1 _ I1 q1) fun us s2⟨xs,H2,I2,r2,q2⟩=>⟨x::xs,H2,I2,.cons r1 r2,q2⟩
noncomputable def bCp (t:TA):TE:=fun σ H Q=>t σ H fun xs H1=>xs.length<=sizeLine/\ ∀p,H1 p=none->Q (.ref p) (upd H1 p (.tup xs))
noncomputable def aLg (t:TA):TE:=fun σ H Q=>t σ H fun xs H1=>xs.length<=sizeLine/\ ∀p,H1 p=none->Q (.ref p) (upd H1 p (.lst xs))
theorem aU8 {x1}(h:PA X es t):PE X (.Tuple es x1 pos) (bCp t):=by
 intro pins s σ H Q I hq
 refine wpAny_Tuple_spliced (thn (h pos pins s σ H _ I hq) fun us s1⟨xs,H1,I1,r,z,q⟩=>⟨by rw[<- r.length];exact z,?_⟩)
 have hf:H1 s1.heap.objs.size=none:=I1.hok.fresh (Nat.le_refl _)
 refine⟨.ref s1.heap.objs.size,upd H1 s1.heap.objs.size (.tup xs),I1.laid (t':=s1.toks) (fun b u e=>Heap.get?_push_of_some _ e) (Nat.le_refl _) ?_,rfl,q _ hf⟩
 exact⟨z,us,r,⟨_,Heap.get?_push_size _ rfl,rfl,_,rfl⟩⟩
theorem cX (h:PA X es t):PE X (.List es pos) (aLg t):=by
 intro pins s σ H Q I hq
 refine wpAny_List_spliced (thn (h pos pins s σ H _ I hq) fun us s1⟨xs,H1,I1,r,z,q⟩=>⟨by rw[<- r.length];exact z,?_⟩)
 have hf:H1 s1.heap.objs.size=none:=I1.hok.fresh (Nat.le_refl _)
 refine⟨.ref s1.heap.objs.size,upd H1 s1.heap.objs.size (.lst xs),I1.laid (t':=s1.toks) (fun b u e=>Heap.get?_push_of_some _ e) (Nat.le_refl _) ?_,rfl,q _ hf⟩
 exact⟨z,us,0,r,Heap.get?_push_size _ rfl⟩
end
noncomputable abbrev Sp:=List V->Hp->VK->XK->Prop
noncomputable abbrev CXT:=List Env->Hp->Shared->XK->Value->Shared->Prop
structure aOc (P:Program)(w:World)(K:PySem.W.Frag)(mg:Str->Option Value)(base:Heap)(A:Around)(outer:List Env)(s:Shared)(H:Hp):Prop where
 frames:A.frames=some outer
 mod:Mod K mg base
 bs: ∀b o,base.get? b=some o->s.heap.get? b=some o/\H b=none
 bsz:base.objs.size<=s.heap.objs.size
 HF:s.heap.FunFrames base outer
 frf: ∀b∈frs outer,H b=none
 hok:HOk P w H s.heap
 bare:AllBare s.gens
noncomputable def CE (outer:List Env)(P:Program)(w:World)(H:Hp)(s:Shared)(Q:VK)(u:Value)(s':Shared):Prop:=
 ∃v H',s'.os=s.os/\AllBare s'.gens/\Un (frs outer) [] H H' s.heap s'.heap/\HOk P w H' s'.heap/\RelV v u/\Q v H'
noncomputable def CR (CX:CXT)(outer:List Env)(P:Program)(w:World)(H:Hp)(s:Shared)(Q:VK)(E:XK)(r:Result)(s':Shared):Prop:=
 match r with
 | .ok (.ret u)=>CE outer P w H s Q u s'
 | .ok _=>False
 | .error e=>CX outer H s E e s'
structure bJ (P:Program)(w:World)(K:PySem.W.Frag)(mg:Str->Option Value)(base:Heap)(CX:CXT)(k:Nat)(f:Addr)(fd:FuncData)(ps:List Str)(sp:Sp):Prop where
 len: ∀vs H Q E,sp vs H Q E->vs.length=ps.length
 run: ∀(A:Around)(outer:List Env)(s:Shared)(H:Hp)(args:Args)(us:List Value)(vs:List V)(Q:VK)(E:XK),sV k A->aOc P w K mg base A outer s H->BindsTo s fd args (ps.zip us)->Vals vs us->sp vs H Q E->
  codeAny (model P w) A (.call (.ref f) args) (CR CX outer P w H s Q E) s
theorem aOc.make {P:Program}{w:World}{K:PySem.W.Frag}{mg:Str->Option Value}{base:Heap}{A:Around}{outer:List Env}{s:Shared}{H:Hp}(e:aOc P w K mg base A outer s H)(C:Addr)(us:List Value)(kw:List (Str×Value)):
  aOc P w K mg base (A.under (.builtin "type.__call__" ⟨.ref C::us,kw⟩)) outer s H:=⟨by first|exact e.frames|(simpa [Around.under,Code.envs,Code.isFrame,pushEnvs] using e.frames),e.mod,e.bs,e.bsz,e.HF,e.frf,e.hok,e.bare⟩
section
variable{X:Cx}{pins:List (Addr×Obj)}{σ:St}{H:Hp}{s s':Shared}
theorem Inv.env0 (I:Inv X pins σ H s):aOc X.prog X.w X.K X.mg X.base X.A X.stack s H:=
 ⟨I.ok.frames,I.ok.mod,I.bs,Nat.le_trans I.ok.bsz I.sz,I.stack,I.aI6,I.hok,I.bare⟩
theorem Inv.after {Q:VK}{u:Value}(I:Inv X pins σ H s)(h:CE X.stack X.prog X.w H s Q u s'):EP X pins σ Q u s':=by
 obtain⟨v,H',os,bare,un,hok,r,q⟩:=h
 obtain⟨hh,g,d,t,os'⟩:=s'
 obtain rfl:os'=s.os:=os
 exact⟨v,H',I.call (h':=hh) (g':=g) (d':=d) (t':=t) (ch:=[]) un hok bare (fun b z=>absurd z (by simp)),r,q⟩
end
noncomputable def aZ5 (sp:Sp)(dvs:List V)(E:XK)(t:TA):TE:=fun σ H Q=>t σ H fun vs H1=>sp (vs++dvs) H1 Q E
noncomputable def aU9 (C:Addr)(m:Str)(sp:Sp)(dvs:List V)(E:XK)(ta:TE)(t:TA):TE:=fun σ H Q=>ta σ H fun x H1=> ∃a dx fs,x= .ref a/\H1 a=some (.ins C dx fs)/\fs.lookup m=none/\
 t σ H1 fun vs H2=>sp (x::(vs++dvs)) H2 Q E
noncomputable def aUa (C:Addr)(sp:Sp)(dvs:List V)(E:XK)(t:TA):TE:=fun σ H Q=>t σ H fun vs H1=> ∀x dx,H1 x=none->H1 dx=none->dx≠x->
 sp (.ref x::(vs++dvs)) (upd (upd H1 dx (.own x)) x (.ins C dx [])) (fun v H2=>v= .non/\Q (.ref x) H2) E
noncomputable def Binds (K:PySem.W.Frag)(fd:FuncData)(ps:List Str)(ds:List Value):Prop:=
 ∀(s:Shared)(us:List Value),K.In s.heap->(us++ds).length=ps.length->BindsTo s fd ⟨us,[]⟩ (ps.zip (us++ds))
theorem Binds.all {K:PySem.W.Frag}{fd:FuncData}{ps:List Str}(h: ∀us:List Value,us.length=ps.length->bindArgs fd ⟨us,[]⟩=pure (ps.zip us)):Binds K fd ps []:=fun s us _ hl=>by
 rw[List.append_nil] at hl ⊢
 exact .of_eq (h us hl)
noncomputable def Passes (CX:CXT)(X:Cx)(E:XK):Prop:= ∀(pins:List (Addr×Obj))(σ:St)(H:Hp)(s:Shared)(e:Value)(s':Shared),Inv X pins σ H s->CX X.stack H s E e s'->X.xe e s'
section
variable{X:Cx}{CX:CXT}{k:Nat}{f C:Addr}{fd:FuncData}{ps:List Str}{sp:Sp}{dvs:List V}{ds:List Value}{E:XK}{x m:Str}{p pos apos:Pos}{e o:Expr}{es:List Expr}{ta:TE}{t:TA}
theorem aOd {pins:List (Addr×Obj)}{σ:St}{H:Hp}{s:Shared}{Q:VK}{us:List Value}{vs:List V}(F:bJ X.prog X.w X.K X.mg X.base CX k f fd ps sp)(hr:sV k X.A)(hb:Binds X.K fd ps ds)(hd:Vals dvs ds)(hx:Passes CX X E)
  (I:Inv X pins σ H s) (r:Vals vs us) (h:sp (vs++dvs) H Q E):wpAny (model X.prog X.w) X.A (call (.ref f) us) (EP X pins σ Q) X.xe s:=by
 have r2:Vals (vs++dvs) (us++ds):=r.append hd
 have hl:(us++ds).length=ps.length:=by rw[<- r2.length];exact F.len _ _ _ _ h
 refine wpAny_call (codeAny_mono (F.run X.A X.stack s H ⟨us,[]⟩ (us++ds) (vs++dvs) Q E hr I.env0 (hb s us I.kIn hl) r2 h) fun r s' hq=>?_)
 cases r with
 |error e=>exact hx pins σ H s e s' I hq
 |ok fl=>
  cases fl with
  |ret u=>exact I.after hq
  |next=>exact False.elim hq
  |brk=>exact False.elim hq
  |cont=>exact False.elim hq
theorem aJ (F:bJ X.prog X.w X.K X.mg X.base CX k f fd ps sp)(hr:sV k X.A)(hg:Gl X x)(hm:X.mg x=some (.ref f))(hk:PySem.W.keepIn X.K (.ref f)=true)(hb:Binds X.K fd ps ds)(hd:Vals dvs ds)(hx:Passes CX X E)
  (ha:PA X (e::es) t) (hdb:(x==("__debug__":Str))=false:=by decide) (he:starEach (e::es) X.env=(false,eval e X.env)::starEach es X.env:=by rfl) (hpl:(backTo pos (starEach es X.env)).any (·.1)=false:=by rfl):
  PE X (.Call (.Name x p) (e::es) [] pos) (aZ5 sp dvs E t):=by
 intro pins s σ H Q I h
 refine wpAny_Call_Name_kw (yL I hg hm ?_ hdb)
 refine PySem.W.callWith_K (h₀:=X.base) I.ok.mod.kin hk (thn (ha pos pins s σ H _ I h) fun us s1⟨vs,H1,I1,r,q⟩=>⟨I1.kIn,?_⟩) he hpl
 exact aOd F hr hb hd hx I1 r q
theorem dN {pl:Sem Bool}(he:PE X o ta)(c:Cls X.K C)(hm:Meth X.K C m f)(F:bJ X.prog X.w X.K X.mg X.base CX k f fd ps sp)(hr:sV k X.A)(hb:Binds X.K fd ps ds)(hd:Vals dvs ds)(hx:Passes CX X E)(ha:PA X (e::es) t)
  (hst:starEach (e::es) X.env=(false,eval e X.env)::starEach es X.env:=by rfl) (hpl:(backTo pos (starEach es X.env)).any (·.1)=false:=by rfl)
  (ht:eval (.Call (.Attribute o m apos) (e::es) [] pos) X.env=(do
   let ov <- eval o X.env
   standAt apos.atName
   let (f,first) <- holding [ov] (getMethod ov m pl)
   callWith pos f first (backTo pos (starEach (e::es) X.env)) (backToKw pos (keywordEach [] X.env))):=by rfl):
  PE X (.Call (.Attribute o m apos) (e::es) [] pos) (aU9 C m sp dvs E ta t):=by
 intro pins s σ H Q I h
 refine PySem.W.methodCall_KW (pl:=pl) (thn (he pins s σ H _ I h) fun u s1⟨x,H1,I1,rx,a,dx,fs,ex,ea,l,q⟩=>?_) ht
 subst ex
 obtain rfl:u=Value.ref a:=rx
 refine aCp I1 ea c hm l ?_
 refine PySem.W.callWith_K (first:=[.ref a]) (h₀:=X.base) I.ok.mod.kin hm.kp (thn (ha pos pins s1 σ H1 _ I1 q) fun us s2⟨vs,H2,I2,r,q2⟩=>⟨I2.kIn,?_⟩) hst hpl
 exact aOd (us:= .ref a::us) (vs:= .ref a::vs) F hr hb hd hx I2 (.cons rfl r) q2
theorem lN {pl:Sem Bool}(he:PE X o ta)(c:Cls X.K C)(hm:Meth X.K C m f)(F:bJ X.prog X.w X.K X.mg X.base CX k f fd ps sp)(hr:sV k X.A)(hb:Binds X.K fd ps ds)(hd:Vals dvs ds)(hx:Passes CX X E)
  (ht:eval (.Call (.Attribute o m apos) [] [] pos) X.env=(do
   let ov <- eval o X.env
   standAt apos.atName
   let (f,first) <- holding [ov] (getMethod ov m pl)
   callWith pos f first (backTo pos (starEach [] X.env)) (backToKw pos (keywordEach [] X.env))):=by rfl):
  PE X (.Call (.Attribute o m apos) [] [] pos) (aU9 C m sp dvs E ta aFb):=by
 intro pins s σ H Q I h
 refine PySem.W.methodCall_KW (pl:=pl) (thn (he pins s σ H _ I h) fun u s1⟨x,H1,I1,rx,a,dx,fs,ex,ea,l,q⟩=>?_) ht
 subst ex
 obtain rfl:u=Value.ref a:=rx
 refine aCp I1 ea c hm l ?_
 exact PySem.W.callWith_K0 (first:=[.ref a]) I1.kIn hm.kp (aOd (us:=[.ref a]) (vs:=[.ref a]) F hr hb hd hx I1 (.cons rfl .nil) q)
structure Mk (K:PySem.W.Frag)(C f:Addr):Prop where
 makes:PySem.W.makesIn K C=true
 init:PySem.W.findIn K (.ref C) "__init__"=some (some (.ref f))
 fn:PySem.W.isFn K (.ref f)=true
 kp:PySem.W.keepIn K (.ref C)=true
theorem aLh {pins:List (Addr×Obj)}{σ:St}{H:Hp}{s:Shared}{Q:VK}{us:List Value}{vs:List V}(M:Mk X.K C f)(F:bJ X.prog X.w X.K X.mg X.base CX k f fd ps sp)(hr:sV (k+1) X.A)(hb:Binds X.K fd ps ds)(hd:Vals dvs ds)
  (hx:Passes CX X E) (I:Inv X pins σ H s) (r:Vals vs us)
  (h: ∀x dx,H x=none->H dx=none->dx≠x->sp (.ref x::(vs++dvs)) (upd (upd H dx (.own x)) x (.ins C dx [])) (fun v H2=>v= .non/\Q (.ref x) H2) E):
  wpAny (model X.prog X.w) X.A (call (.ref C) us) (EP X pins σ Q) X.xe s:=by
 have hq:=h (s.heap.objs.size+1) s.heap.objs.size (I.hok.fresh (Nat.le_succ _)) (I.hok.fresh (Nat.le_refl _)) (Nat.ne_of_lt (Nat.lt_succ_self _))
 have I2:=Inv.made (C:=C) I
 have r2:Vals (V.ref (s.heap.objs.size+1)::(vs++dvs)) (Value.ref (s.heap.objs.size+1)::(us++ds)):= .cons rfl (r.append hd)
 have hl:(Value.ref (s.heap.objs.size+1)::us++ds).length=ps.length:=by
  have e:=r2.length
  rw[F.len _ _ _ _ hq] at e
  exact e.symm
 refine wpAny_call (aU7 (f:=f) I.kIn M.makes M.init (beq_iff_eq.mp M.fn) (codeAny_mono (F.run _ X.stack _ _ ⟨Value.ref (s.heap.objs.size+1)::us,[]⟩ (Value.ref (s.heap.objs.size+1)::(us++ds)) _ _ E (hr.make C us [])
  (I2.env0.make C us []) (hb _ (Value.ref (s.heap.objs.size+1)::us) I2.kIn hl) r2 hq) fun r s' hq'=>?_))
 cases r with
 |error e=>exact hx pins σ _ _ e s' I2 hq'
 |ok fl=>
  cases fl with
  |ret u=>
   obtain⟨v,H',I3,rv,ev,q3⟩:=I2.after hq'
   subst ev
   exact⟨rv,⟨V.ref (s.heap.objs.size+1),H',I3,rfl,q3⟩⟩
  |next=>exact False.elim hq'
  |brk=>exact False.elim hq'
  |cont=>exact False.elim hq'
theorem dX (M:Mk X.K C f)(F:bJ X.prog X.w X.K X.mg X.base CX k f fd ps sp)(hr:sV (k+1) X.A)(hg:Gl X x)(hm:X.mg x=some (.ref C))(hb:Binds X.K fd ps ds)(hd:Vals dvs ds)(hx:Passes CX X E)
  (ha:PA X (e::es) t) (hdb:(x==("__debug__":Str))=false:=by decide) (he:starEach (e::es) X.env=(false,eval e X.env)::starEach es X.env:=by rfl) (hpl:(backTo pos (starEach es X.env)).any (·.1)=false:=by rfl):
  PE X (.Call (.Name x p) (e::es) [] pos) (aUa C sp dvs E t):=by
 intro pins s σ H Q I h
 refine wpAny_Call_Name_kw (yL I hg hm ?_ hdb)
 refine PySem.W.callWith_K (h₀:=X.base) I.ok.mod.kin M.kp (thn (ha pos pins s σ H _ I h) fun us s1⟨vs,H1,I1,r,q⟩=>⟨I1.kIn,?_⟩) he hpl
 exact aLh M F hr hb hd hx I1 r q
theorem uX (M:Mk X.K C f)(F:bJ X.prog X.w X.K X.mg X.base CX k f fd ps sp)(hr:sV (k+1) X.A)(hg:Gl X x)(hm:X.mg x=some (.ref C))(hb:Binds X.K fd ps ds)(hd:Vals dvs ds)(hx:Passes CX X E)
  (hdb:(x==("__debug__":Str))=false:=by decide):PE X (.Call (.Name x p) [] [] pos) (aUa C sp dvs E aFb):=by
 intro pins s σ H Q I h
 refine wpAny_Call_Name_kw (yL I hg hm ?_ hdb)
 exact PySem.W.callWith_K0 I.kIn M.kp (aLh (us:=[]) M F hr hb hd hx I .nil h)
end
section
variable{X:Cx}{CX:CXT}{k:Nat}{f C:Addr}{fd:FuncData}{ps ks:List Str}{sp:Sp}{E:XK}{x m:Str}{p pos apos kpos:Pos}{e o:Expr}{es:List Expr}{kws:List Keyword}{te ta:TE}{t tk:TA}{nm:Option Str}
structure bEr (K:PySem.W.Frag)(fd:FuncData)(ps ks:List Str)(g:List Value->List Value->List Value)(gV:List V->List V->List V):Prop where
 to: ∀(s:Shared)(us ws:List Value),K.In s.heap->(g us ws).length=ps.length->BindsTo s fd ⟨us,ks.zip ws⟩ (ps.zip (g us ws))
 rel: ∀{vs:List V}{us:List Value}{zs:List V}{ws:List Value},Vals vs us->Vals zs ws->Vals (gV vs zs) (g us ws)
variable{g:List Value->List Value->List Value}{gV:List V->List V->List V}
end
structure aY (N P:List Str)(sc:Scope):Prop where
 kind:sc.kind= .function
 co:sc.isCoroutine=false
 gen:sc.isGenerator=false
 nd:N.Nodup
 pre:N.take P.length=P
 par: ∀x∈P,sc.names.lookup x=some .local\/sc.names.lookup x=some .cell
 bA7: ∀y∈sc.names,y.2≠ .free
theorem aGr {kindOf:Str->Option NameKind}{x:Str}: ∀{binds:List (Str×Value)}{m:Str->Option Value},(∀v,(x,v)∉binds)->bindL kindOf binds m x=m x
 |[],_,_=>rfl
 |(n,v)::r,m,h=>by
  unfold bindL
  rw[aGr fun w hw=>h w (List.mem_cons_of_mem _ hw)]
  split
  .have:x≠n:=by rintro rfl;exact h v List.mem_cons_self
   simp[this]
  .rfl
theorem aGs {kindOf:Str->Option NameKind}{x:Str}: ∀{binds:List (Str×Value)}{m:Str->Option Value},(∀v,(x,v)∉binds)->bindC kindOf binds m x=m x
 |[],_,_=>rfl
 |(n,v)::r,m,h=>by
  unfold bindC
  rw[aGs fun w hw=>h w (List.mem_cons_of_mem _ hw)]
  split
  .rfl
  .have:x≠n:=by rintro rfl;exact h v List.mem_cons_self
   simp[this]
theorem aGt {kindOf:Str->Option NameKind}{x:Str}{v:Value}: ∀{P:List Str}{vs:List Value}{i:Nat}{m:Str->Option Value},P.Nodup->P[i]?=some x->vs[i]?=some v->kindOf x=some .local->
  bindL kindOf (P.zip vs) m x=some v
 |[],_,_,_,_,h,_,_=>by simp at h
 |_::_,[],_,_,_,_,h,_=>by simp at h
 |p::P,w::vs,0,m,nd,h1,h2,hk=>by
  simp at h1 h2;subst h1;subst h2
  show bindL kindOf ((p,w)::P.zip vs) m p=_
  unfold bindL
  rw[aGr fun v hv=>(List.nodup_cons.mp nd).1 (List.of_mem_zip hv).1,if_pos hk]
  simp
 |p::P,w::vs,i+1,m,nd,h1,h2,hk=>by
  show bindL kindOf ((p,w)::P.zip vs) m x=_
  unfold bindL
  exact aGt (i:=i) (List.nodup_cons.mp nd).2 (by simpa using h1) (by simpa using h2) hk
theorem aGu {kindOf:Str->Option NameKind}{x:Str}{v:Value}: ∀{P:List Str}{vs:List Value}{i:Nat}{m:Str->Option Value},P.Nodup->P[i]?=some x->vs[i]?=some v->kindOf x≠some .local->
  bindC kindOf (P.zip vs) m x=some v
 |[],_,_,_,_,h,_,_=>by simp at h
 |_::_,[],_,_,_,_,h,_=>by simp at h
 |p::P,w::vs,0,m,nd,h1,h2,hk=>by
  simp at h1 h2;subst h1;subst h2
  show bindC kindOf ((p,w)::P.zip vs) m p=_
  unfold bindC
  rw[aGs fun v hv=>(List.nodup_cons.mp nd).1 (List.of_mem_zip hv).1,if_neg hk]
  simp
 |p::P,w::vs,i+1,m,nd,h1,h2,hk=>by
  show bindC kindOf ((p,w)::P.zip vs) m x=_
  unfold bindC
  exact aGu (i:=i) (List.nodup_cons.mp nd).2 (by simpa using h1) (by simpa using h2) hk
noncomputable def start (N:List Str)(vs:List V):St:=vs.map some++List.replicate (N.length-vs.length) none
noncomputable def aFc (CX:CXT)(P:Program)(w:World)(K:PySem.W.Frag)(mg:Str->Option Value)(base:Heap)(N:List Str)(qual:Str)(scope:Scope)(f:Addr)(cd:Value)(A:Around)(outer:List Env)(s:Shared)(H:Hp)(E:XK):Cx where
 prog:=P
 w:=w
 K:=K
 mg:=mg
 base:=base
 A:=A.deeper (envOfC qual scope s.heap.objs.size f cd)
 N:=N
 s_0:=s
 H_0:=H
 env:=envOfC qual scope s.heap.objs.size f cd
 outer:=outer
 stack:=envOfC qual scope s.heap.objs.size f cd::outer
 ex:=[]
 calm:=true
 fn:=fun _=>true
 pn:=[]
 xe:=fun e s'=>wpAny (model P w) (A.deeper (envOfC qual scope s.heap.objs.size f cd)) («leaving» (envOfC qual scope s.heap.objs.size f cd) e) (fun _ s''=>CX outer H s E e s'') (fun e' s''=>CX outer H s E e' s'') s'
theorem aLi {sc:Scope}{n:Nat}{x:Str}(h:sc.names.lookup x=some .cell): ∃c,(cellsFrom n sc.names []).lookup x=some c:=by
 have q:=PySem.W.cellsFrom_some sc.names n [] (.inl h)
 exact Option.isSome_iff_exists.mp q
theorem aS1 {CX:CXT}{P:Program}{w:World}{K:PySem.W.Frag}{mg:Str->Option Value}{base:Heap}{N ps:List Str}{qual:Str}{scope:Scope}{f:Addr}{cd:Value}{A:Around}{outer:List Env}{s s1:Shared}{H:Hp}{E:XK}{us:List Value}{vs:List V}
  (S:aY N ps scope) (hd:A.handled=none) (e0:aOc P w K mg base A outer s H) (hl:vs.length=ps.length) (r:Vals vs us)
  (x:InCallC s s.heap.objs.size (bindL (envOfC qual scope s.heap.objs.size f cd).kindOf (ps.zip us) fun _=>none) (cellsFrom (s.heap.objs.size+1) scope.names []) (bindC (envOfC qual scope s.heap.objs.size f cd).kindOf (ps.zip us) fun _=>none) s1):
  Inv (aFc CX P w K mg base N qual scope f cd A outer s H E) [] (start N vs) H s1:=by
 have hpl:ps.length<=N.length:=by have:=congrArg List.length S.pre;rw[List.length_take] at this;lia
 obtain⟨h1,tk,rfl,hk⟩:=x.done
 have noA: ∀b:Addr,b∉(aFc CX P w K mg base N qual scope f cd A outer s H E).ex:=fun b z=>absurd (show b∈([]:List Addr) from z) (by simp)
 refine⟨⟨e0.mod,S.kind,rfl,rfl,Nat.le_refl _,fun y z c h1 h2=>?_,fun y hy=>?_,fun y c _ h=>?_,fun _=>hd,Around.frames_deeper e0.frames,.inr ⟨rfl,rfl⟩,fun b z=>absurd z (noA b),e0.bs,e0.bsz,fun b _ _=>noA b,fun b z=>absurd z (noA b),e0.HF,e0.frf⟩,
  rfl,e0.bare,Un.kept hk,⟨_,x.toInCall.ns,fun i y v h1 h2 h3=>?_⟩,fun y c h=>⟨_,x.cell y c h⟩,e0.hok.fresh (Nat.le_refl _),fun y c h=>?_,fun p hp=>absurd (show p∈([]:List (Addr×Obj)) from hp) (by simp),e0.hok.kept hk,?_⟩
 .exact name_of_addr x.apart (PySem.mem_of_lookup h1) (PySem.mem_of_lookup h2)
 .have hy:scope.names.lookup y=some .cell\/scope.names.lookup y=some .free:=hy
  rcases hy with hy|hy
  .exact aLi hy
  .exact absurd rfl (S.bA7 _ (PySem.mem_of_lookup hy))
 .exact Nat.le_of_lt (x.above y c (PySem.mem_of_lookup h))
 .have hi:i<vs.length:=by
   unfold start at h2
   by_cases hi:i<vs.length
   .exact hi
   .rw[List.getElem?_append_right (by simpa using hi)] at h2
    rw[List.getElem?_replicate] at h2
    split at h2 <;>cases h2
  have ha:vs[i]?=some v:=by
   unfold start at h2
   rw[List.getElem?_append_left (by simpa using hi),List.getElem?_map] at h2
   cases e:vs[i]? with
   |none=>rw[e] at h2;cases h2
   |some a=>rw[e] at h2;cases h2;rfl
  obtain⟨u,hu,rv⟩:=r.get ha
  have hp:ps[i]?=some y:=by
   rw[<- S.pre,List.getElem?_take_of_lt (by lia)];exact h1
  have ndP:ps.Nodup:=by rw[<- S.pre];exact S.nd.sublist (List.take_sublist _ _)
  refine⟨u,rv,?_⟩
  rcases S.par y (List.mem_of_getElem? hp) with k|k
  .exact .inl ⟨k,aGt ndP hp hu k⟩
  .obtain⟨c,e⟩:=aLi (n:=s.heap.objs.size+1) k
   refine .inr ⟨.inl k,c,e,?_⟩
   have q:=x.cell y c e
   rw[aGu ndP hp hu (by show scope.names.lookup y≠_;rw[k];decide)] at q
   exact q
 .exact e0.hok.fresh (Nat.le_of_lt (x.above y c (PySem.mem_of_lookup h)))
 .unfold start
  show _=N.length
  rw[List.length_append,List.length_map,List.length_replicate]
  lia
theorem aZ6 {CX:CXT}{P:Program}{w:World}{K:PySem.W.Frag}{mg:Str->Option Value}{base:Heap}{k:Nat}{f:Addr}{name qual:Str}{params:Arguments}{body:List Stmt}{scope:Scope}{dV kV doc pm cdv ct oc:Value}{an od:Option Addr}
  {osl:Array (Option Value)} {N ps:List Str} {sp:Sp} (lk:K.lookup f=some ⟨oc,od,.func (PySem.W.fnOf name qual params body scope dV kV doc pm an cdv ct),osl⟩) (hcd:PySem.W.codeIn K cdv qual=true) (S:aY N ps scope)
  (len: ∀vs H Q E,sp vs H Q E->vs.length=ps.length)
  (hbody: ∀(A:Around)(outer:List Env)(s:Shared)(H:Hp)(vs:List V)(Q:VK)(E:XK),sV k (A.deeper (envOfC qual scope s.heap.objs.size f cdv))->sp vs H Q E->
   ∃t,PSs (aFc CX P w K mg base N qual scope f cdv A outer s H E) body t/\t {nx:=fun _ H'=>Q .non H',rt:=Q} (start N vs) H):
  bJ P w K mg base CX (k+1) f (PySem.W.fnOf name qual params body scope dV kV doc pm an cdv ct) ps sp:=by
 refine⟨len,fun A outer s H args us vs Q E hr e0 hb r hsp=>?_⟩
 have hl:=len _ _ _ _ hsp
 have KX:K.In s.heap:=e0.mod.kin.keeps fun b o e=>(e0.bs b o e).1
 have lim:s.heap.NoLimit:=e0.mod.nolimit.keeps fun b o e=>(e0.bs b o e).1
 have hkind: ∀y∈ps.zip us,scope.names.lookup y.1=some .local\/(scope.names.lookup y.1=some .cell/\((cellsFrom (s.heap.objs.size+1) scope.names []).lookup y.1).isSome=true):=fun⟨n,v⟩ hy=>by
  rcases S.par n (List.of_mem_zip hy).1 with q|q
  .exact .inl q
  .exact .inr ⟨q,PySem.W.cellsFrom_some _ _ _ (.inl q)⟩
 refine codeAny_call_function hr.depth (KX _ _ lk) rfl S.co S.gen rfl (PySem.W.codeRec_of KX hcd) (hb _ _ _ _ ?_)
 refine wpAny_newFunctionEnv_cells S.kind hkind fun env he s1 x=>?_
 subst he
 refine⟨lim.keeps x.toInCall.keep,codeAny_func ?_⟩
 obtain⟨t,ht,hq⟩:=hbody A outer s H vs Q E (hr.deeper _) hsp
 have I:Inv (aFc CX P w K mg base N qual scope f cdv A outer s H E) [] (start N vs) H s1:=aS1 S hr.hd e0 hl r x
 refine wpAny_mono (ht [] s1 (start N vs) H _ I hq) (fun fl s' hs=>?_) fun e s' hs=>hs
 have fin: ∀{σ':St}{H':Hp}{v:V}{u:Value},Inv (aFc CX P w K mg base N qual scope f cdv A outer s H E) [] σ' H' s'->RelV v u->Q v H'->CE outer P w H s Q u s':=
  fun{σ' H' v u} J rv q=>⟨v,H',J.os,J.bare,J.base,J.hok,rv,q⟩
 cases fl with
 |ret u=>
  obtain⟨v,σ',H',J,rv,q⟩:=hs
  exact fin J rv q
 |next=>
  obtain⟨σ',H',J,q⟩:=hs
  exact fin (v:=V.non) (u:=Value.none) J rfl q
 |brk=>
  obtain⟨_,_,_,q⟩:=hs
  exact False.elim q
 |cont=>
  obtain⟨_,_,_,q⟩:=hs
  exact False.elim q
end L2
namespace L2
open PySem PySem.Spec PyProof.Rows
section
variable{X:Cx}{x:Str}{p pos:Pos}{e:Expr}{es:List Expr}{t:TA}{id T:String}{r:List V->Hp->VK->Prop}
noncomputable def tCB (r:List V->Hp->VK->Prop)(t:TA):TE:=fun σ H Q=>t σ H fun vs H1=>r vs H1 Q
theorem dF (hc:aCl X (.builtin id) r)(hg:Gl X x)(hm:X.mg x=none)(hv:bootBuiltins x=some (.builtin id))(ha:PA X (e::es) t)(hn:x≠"__name__":=by decide)(hdb:(x==("__debug__":Str))=false:=by decide)
  (he:starEach (e::es) X.env=(false,eval e X.env)::starEach es X.env:=by rfl) (hpl:(backTo pos (starEach es X.env)).any (·.1)=false:=by rfl):PE X (.Call (.Name x p) (e::es) [] pos) (tCB r t):=by
 intro pins s σ H Q I h
 refine wpAny_Call_Name_kw (aI7 I hg hm hv ?_ hn hdb)
 exact PyProof.Rows.callWith_builtin1 (thn (ha pos pins s σ H _ I h) fun us s1⟨vs,H1,I1,r1,q1⟩=>hc pins s1 σ H1 vs us Q I1 r1 q1) he hpl
theorem aGv (hc:aCl X (.type T) r)(hg:Gl X x)(hm:X.mg x=none)(hv:bootBuiltins x=some (.type T))(ha:PA X (e::es) t)(hn:x≠"__name__":=by decide)(hdb:(x==("__debug__":Str))=false:=by decide)
  (he:starEach (e::es) X.env=(false,eval e X.env)::starEach es X.env:=by rfl) (hpl:(backTo pos (starEach es X.env)).any (·.1)=false:=by rfl):PE X (.Call (.Name x p) (e::es) [] pos) (tCB r t):=by
 intro pins s σ H Q I h
 refine wpAny_Call_Name_kw (aI7 I hg hm hv ?_ hn hdb)
 exact PyProof.Rows.callWith_type1 (thn (ha pos pins s σ H _ I h) fun us s1⟨vs,H1,I1,r1,q1⟩=>hc pins s1 σ H1 vs us Q I1 r1 q1) he hpl
end
end L2
namespace HT
open PySem PyProof.Rows
section
variable{prog:Program}{w:World}{A:Around}{E:Value->Shared->Prop}{s:Shared}
noncomputable def sIx (n d:Nat):Option Int->Nat
 |none=>d
 |some v=>if v<0 then(v+(n:Int)).toNat else min v.toNat n
theorem aLj (n d:Nat):sIx n d none=d:=rfl
theorem aBy (n d k:Nat):sIx n d (some (k:Int))=min k n:=by
 show (if(k:Int)<0 then((k:Int)+(n:Int)).toNat else min (k:Int).toNat n)=min k n
 rw[if_neg (by lia),Int.toNat_natCast]
end
end HT
namespace L2
open PySem PySem.Spec PyProof.Rows
noncomputable abbrev TO:=St->Hp->(Option Int->Hp->Prop)->Prop
noncomputable def PO (X:Cx)(e:Option Expr)(t:TO):Prop:=
 ∀(pins:List (Addr×Obj))(s:Shared)(σ:St)(H:Hp)(Q:Option Int->Hp->Prop),Inv X pins σ H s->t σ H Q->
  wpAny (model X.prog X.w) X.A (evalPart e X.env) (fun u s'=> ∃o H',Inv X pins σ H' s'/\IsPart u o/\Q o H') X.xe s
noncomputable def aQa:TO:=fun _ H Q=>Q none H
noncomputable def aZ7 (t:TE):TO:=fun σ H Q=>t σ H fun x H1=> ∃i,x= .int i/\Q (some i) H1
section
variable{X:Cx}{e:Expr}{te:TE}{lo hi:Option Expr}{tl th:TO}{pos p2:Pos}
theorem wA:PO X none aQa:=by
 intro pins s σ H Q I h
 rw[evalPart_none]
 exact wpAny_pure ⟨none,H,I,.none,h⟩
theorem qX (h:PE X e te):PO X (some e) (aZ7 te):=by
 intro pins s σ H Q I hw
 rw[evalPart_some]
 refine thn (h pins s σ H _ I hw) fun u s1⟨x,H1,I1,r1,q1⟩=>?_
 obtain⟨i,rfl,q⟩:=q1
 obtain⟨t,rfl⟩:=r1
 exact⟨some i,H1,I1,.int i t,q⟩
noncomputable def SlR (X:Cx)(r:V->Option Int->Option Int->Hp->VK->Prop):Prop:=
 ∀(pins:List (Addr×Obj))(s:Shared)(σ:St)(H:Hp)(x:V)(v vl vu:Value)(lo hi:Option Int)(sl:Addr)(Q:VK),Inv X pins σ H s->RelV x v->s.heap.IsSliceOf sl vl vu .none->IsPart vl lo->IsPart vu hi->r x lo hi H Q->
  ∃T id,typeLookup (.type T) "__getitem__"=pure (some (.builtin id))/\s.TypeIs v T/\wpAny (model X.prog X.w) X.A (getItem v (.ref sl)) (EP X pins σ Q) X.xe s
noncomputable def tSl (r:V->Option Int->Option Int->Hp->VK->Prop)(te:TE)(tl th:TO):TE:=fun σ H Q=>te σ H fun x H1=>tl σ H1 fun l H2=>th σ H2 fun u H3=>r x l u H3 Q
theorem pD {r:V->Option Int->Option Int->Hp->VK->Prop}(hr:SlR X r)(he:PE X e te)(hl:PO X lo tl)(hu:PO X hi th):PE X (.Subscript e (.Slice lo hi none p2) pos) (tSl r te tl th):=by
 intro pins s σ H Q I h
 refine Subscript_ (thn (he pins s σ H _ I h) fun v s1⟨x,H1,I1,r1,q1⟩=>?_)
 refine wpAny_Slice (thn (hl pins s1 σ H1 _ I1 q1) fun vl s2⟨l,H2,I2,pl,q2⟩=>thn (hu pins s2 σ H2 _ I2 q2) fun vu s3⟨u,H3,I3,pu,q3⟩=>?_)
 rw[evalPart_none]
 refine wpAny_pure ?_
 have I4:Inv X pins σ H3 {s3 with heap:=s3.heap.push {cls:= .type "slice",data:= .fields #[vl,vu,.none]}}:=I3.kept (t':=s3.toks) fun b ob q=>Heap.get?_push_of_some _ q
 obtain⟨T,id,hT,ht,hg⟩:=hr pins {s3 with heap:=s3.heap.push {cls:= .type "slice",data:= .fields #[vl,vu,.none]}} σ H3 x v vl vu l u s3.heap.objs.size Q I4 r1 (Heap.IsSliceOf.new ..) pl pu q3
 show wpAny (model X.prog X.w) X.A (subscriptTail e (.Slice lo hi none p2) v (.ref s3.heap.objs.size)) (EP X pins σ Q) X.xe {s3 with heap:=s3.heap.push {cls:= .type "slice",data:= .fields #[vl,vu,.none]}}
 exact tail_any (ops:=[.ref s3.heap.objs.size,v]) ht hT hg (by with_unfolding_all rfl)
noncomputable def aCt (xs:List V)(lo hi:Option Int):List V:=(xs.drop (HT.sIx xs.length 0 lo)).take (HT.sIx xs.length xs.length hi-HT.sIx xs.length 0 lo)
theorem aLk (xs:List V)(lo hi:Option Int):(aCt xs lo hi).length<=xs.length:=by
 unfold aCt
 rw[List.length_take,List.length_drop]
 lia
end
end L2
namespace L2
open PySem PySem.Spec PyProof.Rows
noncomputable def ixN (n:Nat)(i:Int):Option Nat:=if 0<=i then(if i<n then some i.toNat else none) else if -(n:Int)<=i then some (i+n).toNat else none
noncomputable def atI {α:Type}(xs:List α)(i:Int):Option α:=(ixN xs.length i).bind fun j=>xs[j]?
theorem aQb {n:Nat}{i:Int}{j:Nat}(h:ixN n i=some j):seqIndex? i n=some j/\j<n/\ -(n:Int)<=i/\i<n:=by
 unfold ixN at h
 by_cases h0:0<=i
 .rw[if_pos h0] at h
  by_cases h1:i<n
  .rw[if_pos h1] at h
   have e:i.toNat=j:=Option.some.inj h
   exact⟨by rw[seqIndex_of h0 h1,e],by lia,by lia,h1⟩
  .rw[if_neg h1] at h;cases h
 .rw[if_neg h0] at h
  by_cases h1: -(n:Int)<=i
  .rw[if_pos h1] at h
   have e:(i+n).toNat=j:=Option.some.inj h
   exact⟨by rw[seqIndex_neg (by lia) h1,e],by lia,h1,by lia⟩
  .rw[if_neg h1] at h;cases h
theorem aQc {α:Type}{xs:List α}{i:Int}{v:α}(h:atI xs i=some v): ∃j,seqIndex? i xs.length=some j/\xs[j]?=some v/\j<xs.length/\ -(xs.length:Int)<=i/\i<xs.length:=by
 unfold atI at h
 cases e:ixN xs.length i with
 |none=>rw[e] at h;cases h
 |some j=>
  rw[e] at h
  obtain⟨h1,h2,h3,h4⟩:=aQb e
  exact⟨j,h1,h,h2,h3,h4⟩
theorem bH {α:Type}{xs:List α}{j:Nat}{v:α}(h:xs[j]?=some v):atI xs (j:Int)=some v:=by
 have hj:j<xs.length:=(List.getElem?_eq_some_iff.mp h).1
 have e:ixN xs.length (j:Int)=some j:=by
  unfold ixN
  rw[if_pos (by lia),if_pos (by lia)];simp
 unfold atI;rw[e];exact h
noncomputable def aX0 (b:Expr):Prop:= ∀o i,subscripted b false o i=operate [o,i] (getItem o i)
noncomputable def IxR (X:Cx)(r:R2):Prop:=
 ∀(value slice:Expr)(pins:List (Addr×Obj))(s:Shared)(σ:St)(H:Hp)(x y:V)(v u:Value)(Q:VK),Inv X pins σ H s->RelV x v->RelV y u->r x y H Q->
  subscripted slice false v u=operate [v,u] (getItem v u)->wpAny (model X.prog X.w) X.A (subscriptTail value slice v u) (EP X pins σ Q) X.xe s
noncomputable def MtR (X:Cx)(id:String)(r:V->List V->Hp->VK->Prop):Prop:=
 ∀(pins:List (Addr×Obj))(s:Shared)(σ:St)(H:Hp)(x:V)(xs:List V)(v:Value)(us:List Value)(Q:VK),Inv X pins σ H s->RelV x v->Vals xs us->r x xs H Q->
  wpAny (model X.prog X.w) X.A (call (.builtin id) (v::us)) (EP X pins σ Q) X.xe s
section
variable{X:Cx}{a b:Expr}{ta tb:TE}{pos:Pos}
theorem cJ {r:R2}(hr:IxR X r)(ha:PE X a ta)(hb:PE X b tb)(hs:aX0 b):PE X (.Subscript a b pos) (tOp r ta tb):=by
 intro pins s σ H Q I h
 exact Subscript_ (bA6 ha hb I h fun v u s2 x y H2 I2 rx ry q=>hr a b pins s2 σ H2 x y v u Q I2 rx ry q (hs _ _))
noncomputable def bCq (K:PySem.W.Frag):R2:=fun x y H Q=> ∃p xs i v,x= .ref p/\y= .int i/\SqL K H p xs/\atI xs i=some v/\Q v H
noncomputable def bCr (K:PySem.W.Frag):R2:=fun x y H Q=> ∃p xs i v,x= .ref p/\y= .int i/\SqT K H p xs/\atI xs i=some v/\Q v H
theorem bM:IxR X (bCq X.K):=by
 intro value slice pins s σ H x y v u Q I rx ry h hs
 obtain⟨p,xs,i,z,rfl,rfl,hq,he,q⟩:=h
 cases rx
 obtain⟨t,rfl⟩:=ry
 obtain⟨its,r,pl,hz⟩:=I.list hq
 obtain⟨j,h1,h2,h3,h4,h5⟩:=aQc he
 obtain⟨w,ew,rw'⟩:=r.get h2
 have hl:=r.length
 have hn:=aCn
 have fin:EP X pins σ Q w s:=⟨z,H,I,rw',q⟩
 by_cases h0:0<=i
 .have hj:i.toNat=j:=by
   rw[seqIndex_of h0 h5] at h1
   exact Option.some.inj h1
  exact item_listR pl.isList h0 (by lia) (by rw[hj];simpa using ew) fin hs
 .have hj:(i+(its.toArray.size:Int)).toNat=j:=by
   rw[seqIndex_neg (by lia) h4] at h1
   rw[List.size_toArray,<- hl]
   exact Option.some.inj h1
  exact subscriptTail_builtinR (x:=w) pl.isList.typeIs slot_list_getitem.lookup
   (wpAny_getItem_list_neg (Q:=fun r s'=>r=w/\EP X pins σ Q r s') pl.isList (by lia) (by rw[List.size_toArray] <;>lia) (by lia) (by rw[hj];simpa using ew) ⟨rfl,fin⟩) hs
theorem Z8:IxR X (bCr X.K):=by
 intro value slice pins s σ H x y v u Q I rx ry h hs
 obtain⟨p,xs,i,z,rfl,rfl,hq,he,q⟩:=h
 cases rx
 obtain⟨t,rfl⟩:=ry
 obtain⟨its,r,pl,hz⟩:=I.tuple hq
 obtain⟨j,h1,h2,h3,h4,h5⟩:=aQc he
 obtain⟨w,ew,rw'⟩:=r.get h2
 have hl:=r.length
 have hn:=aCn
 have fin:EP X pins σ Q w s:=⟨z,H,I,rw',q⟩
 exact subscriptTail_builtinR (x:=w) pl.typeIs slot_tuple_getitem.lookup
  (getItem_tuple (j:=j) (Q:=fun r s'=>r=w/\EP X pins σ Q r s') pl (by lia) (by lia) (by rw[List.size_toArray,<- hl];exact h1) (by simpa using ew) ⟨rfl,fin⟩) hs
theorem aOe (its:List Value)(n j:Nat)(u:Value):Obj.mapSeq (·.setIfInBounds j u) {cls:= .type "list",data:= .seq its.toArray n}={cls:= .type "list",data:= .seq (its.set j u).toArray n}:=by
 simp[Obj.mapSeq]
theorem Inv.lst {pins:List (Addr×Obj)}{σ:St}{H:Hp}{s:Shared}{p:Addr}{xs:List V}(I:Inv X pins σ H s)(h:H p=some (.lst xs)):
  ∃(its:List Value)(n:Nat),Vals xs its/\s.heap.get? p=some {cls:= .type "list",data:= .seq its.toArray n}/\xs.length<=sizeLine:=by
 obtain⟨z,its,n,r,e⟩:=I.hok p _ h
 exact⟨its,n,r,e,z⟩
theorem Inv.bA8 {pins:List (Addr×Obj)}{σ:St}{H:Hp}{s:Shared}{p:Addr}{xs ys:List V}{its its':List Value}{n n':Nat}{f:Obj->Obj}(I:Inv X pins σ H s)(h:H p=some (.lst xs))
  (ho:s.heap.get? p=some {cls:= .type "list",data:= .seq its.toArray n}) (hf:f {cls:= .type "list",data:= .seq its.toArray n}={cls:= .type "list",data:= .seq its'.toArray n'}) (r:Vals ys its') (hz:ys.length<=sizeLine) (t:Nat):
  Inv X pins σ (upd H p (.lst ys)) {s with heap:=s.heap.update p f,toks:=t}:=by
 have e:(s.heap.update p f).get? p=some {cls:= .type "list",data:= .seq its'.toArray n'}:=by
  rw[Heap.get?_update_self f ho (by rw[hf] <;>rfl),hf]
 refine I.write (x:=p) (e:=p) (by rw[h];trivial) (.inl rfl) (fun b u hb q=>(Heap.get?_update_other _ _ (Ne.symm hb)).trans q) ⟨_,e⟩ ?_
 exact⟨hz,its',n',r,e⟩
noncomputable def aZ8:V->V->V->Hp->(Hp->Prop)->Prop:=fun o i v H Q=> ∃p xs k j,o= .ref p/\i= .int k/\H p=some (.lst xs)/\ixN xs.length k=some j/\Q (upd H p (.lst (xs.set j v)))
theorem set_list:bA5 X aZ8:=by
 intro pins s σ H o i v ov iv u Q I ro ri rv h
 obtain⟨p,xs,k,j,rfl,rfl,hp,hj,q⟩:=h
 cases ro
 obtain⟨t,rfl⟩:=ri
 obtain⟨its,n,r,ho,hz⟩:=I.lst hp
 obtain⟨h1,h2,h3,h4⟩:=aQb hj
 have hl:=r.length
 have hn:=aCn
 have I':Inv X pins σ (upd H p (.lst (xs.set j v))) {s with heap:=s.heap.update p (Obj.mapSeq (·.setIfInBounds j u))}:=
  I.bA8 hp ho (aOe its n j u) (r.set rv j) (by rw[List.length_set];exact hz) s.toks
 by_cases h0:0<=k
 .have hk:k.toNat=j:=by
   rw[seqIndex_of h0 h4] at h1
   exact Option.some.inj h1
  exact PySem.W.ki_setAt ho h0 (by lia) (by rw[List.size_toArray,<- hl];exact h4) (by rw[hk];exact⟨_,I',q⟩)
 .have hk:(k+(its.toArray.size:Int)).toNat=j:=by
   rw[seqIndex_neg (by lia) h3] at h1
   rw[List.size_toArray,<- hl]
   exact Option.some.inj h1
  exact PySem.W.ki_setBack ho (by lia) (by rw[List.size_toArray,<- hl];exact h3) (by lia) (by rw[hk];exact⟨_,I',q⟩)
theorem aIc (lo hi:Option Int)(n:Nat):(sliceBounds lo hi none n).1=((HT.sIx n 0 lo:Nat):Int)/\(sliceBounds lo hi none n).2.1=((HT.sIx n n hi:Nat):Int)/\(sliceBounds lo hi none n).2.2=1:=by
 refine⟨?_,?_,rfl⟩
 .cases lo with
  |none=>simp[sliceBounds,HT.sIx]
  |some i=>
   simp only[sliceBounds,HT.sIx,Option.getD_none,show (1:Int)>0 by decide,if_true]
   by_cases h:i<0
   .simp only[h,if_true] <;>lia
   .simp only[h,if_false] <;>lia
 .cases hi with
  |none=>simp[sliceBounds,HT.sIx]
  |some i=>
   simp only[sliceBounds,HT.sIx,Option.getD_none,show (1:Int)>0 by decide,if_true]
   by_cases h:i<0
   .simp only[h,if_true] <;>lia
   .simp only[h,if_false] <;>lia
theorem aFd (its:List Value)(lo hi:Option Int):slicePick its.toArray lo hi none=((its.drop (HT.sIx its.length 0 lo)).take (HT.sIx its.length its.length hi-HT.sIx its.length 0 lo)).toArray:=by
 obtain⟨h1,h2,h3⟩:=aIc lo hi its.toArray.size
 unfold slicePick
 rw[h1,h2,h3]
 simp only[sliceRange_one,pick_run,List.size_toArray] <;>rfl
noncomputable def bCs (K:PySem.W.Frag):V->Option Int->Option Int->Hp->VK->Prop:=fun x lo hi H Q=> ∃a xs,x= .ref a/\SqL K H a xs/\ ∀p,H p=none->Q (.ref p) (upd H p (.lst (aCt xs lo hi)))
theorem uE:SlR X (bCs X.K):=by
 intro pins s σ H x v vl vu lo hi sl Q I rx hs pl pu h
 obtain⟨a,xs,rfl,hx,q⟩:=h
 cases rx
 obtain⟨its,r,ht,hz⟩:=I.list hx
 have hlen:=r.length
 refine⟨"list",_,slot_list_getitem.lookup,ht.isList.typeIs,?_⟩
 refine wpAny_getItem_list_slice ht.isList hs pl pu .none (by simp) ?_ (by rw[List.size_toArray] <;>lia)
 rw[aFd,<- hlen]
 refine⟨.ref s.heap.objs.size,_,I.laid (t':=s.toks) (o:= .lst (aCt xs lo hi)) (fun b ob q=>Heap.get?_push_of_some _ q) (Nat.le_refl _) ?_,rfl,q _ (I.hok.fresh (Nat.le_refl _))⟩
 exact⟨Nat.le_trans (aLk xs lo hi) hz,_,0,(r.drop (HT.sIx xs.length 0 lo)).take (HT.sIx xs.length xs.length hi-HT.sIx xs.length 0 lo),Heap.get?_push_size _ rfl⟩
noncomputable def uY:V->Bool
 | .non=>true
 | .bl _=>true
 | .int _=>true
 | .str _=>true
 |_=>false
noncomputable def eqV:V->V->Bool
 | .non,.non=>true
 | .bl a,.bl b=>a==b
 | .bl a,.int b=>(if a then 1 else 0)==b
 | .int a,.bl b=>a==(if b then 1 else 0)
 | .int a,.int b=>a==b
 | .str a,.str b=>a==b
 |_,_=>false
theorem bA9 {A:Around}{s:Shared}{y x:V}{u v:Value}(ry:RelV y u)(rx:RelV x v)(fy:uY y=true)(fx:uY x=true):SeqAt.EqAt A s u v (eqV y x):=by
 cases y with
 |non=>
  cases ry
  cases x with
  |non=>cases rx;exact SeqAt.EqAt.same _
  |bl b=>cases rx;exact SeqAt.EqAt.none_bool b
  |int b=>obtain⟨t,rfl⟩:=rx;exact SeqAt.EqAt.none_int b t
  |str b=>obtain⟨t,rfl⟩:=rx;exact SeqAt.EqAt.none_str b t
  |_=>exact absurd (show false=true from fx) Bool.false_ne_true
 |bl a=>
  cases ry
  cases x with
  |non=>cases rx;exact SeqAt.EqAt.bool_none a
  |bl b=>cases rx;exact SeqAt.EqAt.bool_bool a b
  |int b=>obtain⟨t,rfl⟩:=rx;exact SeqAt.EqAt.bool_int a b t
  |str b=>obtain⟨t,rfl⟩:=rx;exact SeqAt.EqAt.bool_str a b t
  |_=>exact absurd (show false=true from fx) Bool.false_ne_true
 |int a=>
  obtain⟨t',rfl⟩:=ry
  cases x with
  |non=>cases rx;exact SeqAt.EqAt.int_none a t'
  |bl b=>cases rx;exact SeqAt.EqAt.int_bool a t' b
  |int b=>obtain⟨t,rfl⟩:=rx;exact SeqAt.EqAt.int_int a t' b t
  |str b=>obtain⟨t,rfl⟩:=rx;exact SeqAt.EqAt.int_str a t' b t
  |_=>exact absurd (show false=true from fx) Bool.false_ne_true
 |str a=>
  obtain⟨t',rfl⟩:=ry
  cases x with
  |non=>cases rx;exact SeqAt.EqAt.str_none a t'
  |bl b=>cases rx;exact SeqAt.EqAt.str_bool a t' b
  |int b=>obtain⟨t,rfl⟩:=rx;exact SeqAt.EqAt.str_int a t' b t
  |str b=>obtain⟨t,rfl⟩:=rx;exact SeqAt.EqAt.str_str a t' b t
  |_=>exact absurd (show false=true from fx) Bool.false_ne_true
 |_=>exact absurd (show false=true from fy) Bool.false_ne_true
noncomputable def eqU (x:V)(u:Value):Bool:=match u with
 | .none=>eqV .non x
 | .bool b=>eqV (.bl b) x
 | .int i _=>eqV (.int i) x
 | .str z _=>eqV (.str z) x
 |_=>false
theorem aIe {x y:V}{u:Value}(r:RelV y u)(f:uY y=true):eqU x u=eqV y x:=by
 cases y with
 |non=>cases r;rfl
 |bl b=>cases r;rfl
 |int i=>obtain⟨t,rfl⟩:=r;rfl
 |str z=>obtain⟨t,rfl⟩:=r;rfl
 |_=>exact absurd (show false=true from f) Bool.false_ne_true
theorem R9 {x:V}: ∀{xs:List V}{us:List Value},Vals xs us->xs.all uY=true->us.any (eqU x)=xs.any fun y=>eqV y x
 |_,_,.nil,_=>rfl
 |y::xs,u::us,.cons r t,f=>by
  rw[List.all_cons,Bool.and_eq_true] at f
  rw[List.any_cons,List.any_cons,aIe r f.1,R9 t f.2]
theorem uZ {A:Around}{s:Shared}{x:V}{v:Value}(rx:RelV x v)(fx:uY x=true): ∀{xs:List V}{us:List Value},Vals xs us->xs.all uY=true-> ∀u∈us,SeqAt.EqAt A s u v (eqU x u)
 |_,_,.nil,_=>fun u hu=>by cases hu
 |y::xs,u::us,.cons r t,f=>fun u' hu=>by
  rw[List.all_cons,Bool.and_eq_true] at f
  rcases List.mem_cons.mp hu with rfl|hu
  .rw[aIe r f.1];exact bA9 r rx f.1 fx
  .exact uZ rx fx t f.2 u' hu
noncomputable def inV (x:V)(xs:List V):Bool:=xs.any fun y=>eqV y x
noncomputable def rIn (K:PySem.W.Frag)(neg:Bool):R2:=fun x y H Q=> ∃p xs,y= .ref p/\(SqL K H p xs\/SqT K H p xs)/\uY x=true/\xs.all uY=true/\Q (.bl (if neg then !inV x xs else inV x xs)) H
theorem DN:OpR X (compareOp .In) (rIn X.K false):=by
 intro pins s σ H x y v u Q I rx ry h
 obtain⟨p,xs,rfl,hq,fx,fs,q⟩:=h
 cases ry
 rcases hq with hq|hq
 .obtain⟨its,r,pl,hz⟩:=I.list hq
  refine SeqAt.in_listAt (eqU x) pl.isList (fun w hw=>uZ rx fx r fs w (by simpa using hw)) ⟨.bl _,H,I,rfl,?_⟩
  rw[show its.toArray.any (eqU x)=its.any (eqU x) by simp,R9 r fs]
  exact q
 .obtain⟨its,r,pl,hz⟩:=I.tuple hq
  refine SeqAt.in_tupleAt (eqU x) pl (fun w hw=>uZ rx fx r fs w (by simpa using hw)) ⟨.bl _,H,I,rfl,?_⟩
  rw[show its.toArray.any (eqU x)=its.any (eqU x) by simp,R9 r fs]
  exact q
theorem HN:OpR X (compareOp .NotIn) (rIn X.K true):=by
 intro pins s σ H x y v u Q I rx ry h
 obtain⟨p,xs,rfl,hq,fx,fs,q⟩:=h
 cases ry
 rcases hq with hq|hq
 .obtain⟨its,r,pl,hz⟩:=I.list hq
  refine SeqAt.notIn_listAt (eqU x) pl.isList (fun w hw=>uZ rx fx r fs w (by simpa using hw)) ⟨.bl _,H,I,rfl,?_⟩
  rw[show its.toArray.any (eqU x)=its.any (eqU x) by simp,R9 r fs]
  exact q
 .obtain⟨its,r,pl,hz⟩:=I.tuple hq
  refine SeqAt.notIn_tupleAt (eqU x) pl (fun w hw=>uZ rx fx r fs w (by simpa using hw)) ⟨.bl _,H,I,rfl,?_⟩
  rw[show its.toArray.any (eqU x)=its.any (eqU x) by simp,R9 r fs]
  exact q
theorem cU:aCl X (.builtin "len") (fun xs H Q=> ∃p ys,xs=[.ref p]/\(SqL X.K H p ys\/SqT X.K H p ys)/\Q (.int ys.length) H):=by
 intro pins s σ H xs us Q I r h
 obtain⟨p,ys,rfl,hq,q⟩:=h
 obtain⟨u,rfl,rx⟩:=vals1 r
 cases rx
 have hn:=aCn
 rcases hq with hq|hq
 .obtain⟨its,r',pl,hz⟩:=I.list hq
  have hlen:=r'.length
  exact Calls.call_len_list pl.isList (by simp only[List.size_toArray] <;>lia) ⟨.int ys.length,H,I.tok _,⟨s.toks+1,by rw[List.size_toArray,hlen]⟩,q⟩
 .obtain⟨its,r',pl,hz⟩:=I.tuple hq
  have hlen:=r'.length
  exact len_tuple pl (by simp only[List.size_toArray] <;>lia) ⟨.int ys.length,H,I.tok _,⟨s.toks+1,by rw[List.size_toArray,hlen]⟩,q⟩
noncomputable def tyV (K:PySem.W.Frag)(T:String)(x:V)(H:Hp):Prop:=match x with
 | .str _=>T="str"
 | .int _=>T="int"
 | .ref p=>(T="list"/\ ∃xs,SqL K H p xs)\/(T="tuple"/\ ∃o,K.lookup p=some o/\o.cls= .type "tuple"/\o.dict=none)\/
   (T="dict"/\((∃kvs,H p=some (.dK kvs))\/ ∃kvs,H p=some (.dT kvs)))\/(T="set"/\ ∃S n,H p=some (.set S n))
 |_=>False
theorem bAa {pins:List (Addr×Obj)}{σ:St}{H:Hp}{s:Shared}{T:String}{x:V}{v:Value}(I:Inv X pins σ H s)(r:RelV x v)(ty:tyV X.K T x H):
  s.TypeIs v T/\ ∀a,v= .ref a-> ∃ob,s.heap.get? a=some ob/\ob.dict=none:=by
 cases x with
 |str z=>
  obtain⟨t,rfl⟩:=r
  cases (show T="str" from ty)
  exact⟨typeIs_str s z t,fun _ e=>nomatch e⟩
 |int i=>
  obtain⟨t,rfl⟩:=r
  cases (show T="int" from ty)
  exact⟨typeIs_int s i t,fun _ e=>nomatch e⟩
 |ref p=>
  cases r
  rcases ty with ⟨rfl,xs,hq⟩|⟨rfl,o,hk,hc,hd⟩|⟨rfl,hk⟩|⟨rfl,S,n,hk⟩
  .obtain⟨its,_,pl,_⟩:=I.list hq
   refine⟨pl.isList.typeIs,fun a e=>?_⟩
   cases e
   obtain⟨o,n,e,c,hd,_⟩:=pl
   exact⟨o,e,hd⟩
  .refine⟨⟨o,I.kIn p o hk,hc⟩,fun a e=>?_⟩
   cases e
   exact⟨o,I.kIn _ o hk,hd⟩
  .have z: ∃o,s.heap.get? p=some o/\o.ExactDict:=by
    rcases hk with ⟨kvs,hk⟩|⟨kvs,hk⟩
    .obtain⟨_,_,_,_,o,_,_,e,ex,_⟩:=I.hok p _ hk
     exact⟨o,e,ex⟩
    .obtain⟨_,_,_,_,o,_,_,e,ex,_⟩:=I.hok p _ hk
     exact⟨o,e,ex⟩
   obtain⟨o,e,ex⟩:=z
   refine⟨⟨o,e,ex.1⟩,fun a e2=>?_⟩
   cases e2
   exact⟨o,e,ex.2.1⟩
  .obtain⟨o,_,_,_,e,ex,_⟩:=I.hok p _ hk
   refine⟨⟨o,e,ex.1⟩,fun a e2=>?_⟩
   cases e2
   exact⟨o,e,ex.2.1⟩
 |_=>exact False.elim ty
noncomputable def tBM (K:PySem.W.Frag)(T:String)(r:V->List V->Hp->VK->Prop)(to:TE)(t:TA):TE:=fun σ H Q=>to σ H fun x H1=>tyV K T x H1/\t σ H1 fun xs H2=>r x xs H2 Q
variable{o e:Expr}{es:List Expr}{to:TE}{t:TA}{name:Str}{apos cpos:Pos}{T id:String}{r:V->List V->Hp->VK->Prop}
theorem vY (pa:PlainAttrs T)(slot:Slot T name id)(hty:typeOf (.builtin id)=pure (.type "method_descriptor"))(hm:MtR X id r)(ho:PE X o to)(ha:PA X (e::es) t)
  (hbase:attributeBase o name X.env (eval o X.env)=eval o X.env:=by rfl)
  (hfew:((backTo cpos (starEach (e::es) X.env)).all (fun x=> !x.1)&&(backToKw cpos (keywordEach [] X.env)).all (fun x=>x.1.isSome)
   &&decide ((e::es).length+([]:List Keyword).length+(if([]:List Keyword).isEmpty then 0 else 1)<30))=true:=by rfl)
  (hline:(apos.endLine==cpos.line)=true:=by rfl) (hs:starEach (e::es) X.env=(false,eval e X.env)::starEach es X.env:=by rfl) (hplain:(backTo cpos (starEach es X.env)).any (·.1)=false:=by rfl):
  PE X (.Call (.Attribute o name apos) (e::es) [] cpos) (tBM X.K T r to t):=by
 intro pins s σ H Q I h
 refine wpAny_Call_method_late hbase hfew hline rfl (thn (ho pins s σ H _ I h) fun v s1⟨x,H1,I1,r1,ty,q1⟩=>?_)
 obtain⟨h1,h2⟩:=bAa I1 r1 ty
 refine⟨T,id,pa,slot,hty,h1,h2,?_⟩
 have hA:=ha cpos pins s1 σ H1 _ I1 q1
 rw[hs] at hA ⊢
 refine Calls.callWith_builtin (by show (false||(backTo cpos (starEach es X.env)).any (·.1))=false;rw[hplain] <;>rfl) (Calls.evalArgs_plain ?_)
 exact thn hA fun us s2⟨vs,H2,I2,r2,q2⟩=>hm pins s2 σ H2 x vs v us Q I2 r1 r2 q2
end
end L2
namespace L2
open PySem PySem.Spec PyProof.Rows
noncomputable def MtM (X:Cx)(id:String)(r:V->List V->Hp->VK->Prop):Prop:=
 ∀(pins:List (Addr×Obj))(s:Shared)(σ:St)(H:Hp)(x:V)(xs:List V)(v:Value)(us:List Value)(Q:VK),Inv X pins σ H s->RelV x v->Vals xs us->r x xs H Q->
  wpAny (model X.prog X.w) X.A (call (.builtin id) (v::us)) (EP X pins σ Q) X.xe s
theorem Vals.one: ∀{x:V}{us:List Value},Vals [x] us-> ∃u,us=[u]/\RelV x u
 |_,_,.cons r .nil=>⟨_,rfl,r⟩
section
variable{X:Cx}{pins:List (Addr×Obj)}{σ:St}{H:Hp}{s:Shared}{l b:Addr}{xs ys zs:List V}
theorem Inv.bCt {its its':List Value}{n:Nat}{f:Array Value->Array Value}{t':Nat}(I:Inv X pins σ H s)(hH:H l=some (.lst xs))
  (e:s.heap.get? l=some {cls:= .type "list",data:= .seq its.toArray n}) (hf:f its.toArray=its'.toArray) (hv:Vals ys its') (hz:ys.length<=sizeLine):
  Inv X pins σ (upd H l (.lst ys)) {s with heap:=s.heap.update l (Obj.mapSeq f),toks:=t'}:=by
 have q:=PySem.IsL.update e f
 rw[hf] at q
 refine I.write (x:=l) (e:=l) (by rw[hH];exact trivial) (.inl rfl) (fun b' u hb hu=>(Heap.get?_update_other s.heap (Obj.mapSeq f) (Ne.symm hb)).trans hu) ⟨_,q⟩ ?_
 exact⟨hz,its',_,hv,q⟩
theorem Inv.bEs {its:List Value}{t':Nat}(I:Inv X pins σ H s)(hv:Vals ys its)(hz:ys.length<=sizeLine):
  Inv X pins σ (upd H s.heap.objs.size (.lst ys)) {s with heap:=s.heap.push {cls:= .type "list",data:= .seq its.toArray},toks:=t'}:=
 I.laid (fun _ _ q=>Heap.get?_push_of_some _ q) (Nat.le_refl _) ⟨hz,its,0,hv,Heap.get?_push_size _ rfl⟩
theorem Inv.fresh (I:Inv X pins σ H s):H s.heap.objs.size=none:=I.hok.fresh (Nat.le_refl _)
theorem Inv.aUb (I:Inv X pins σ H s)(hH:H l=some (.lst xs)):xs.length<=sizeLine/\ ∃(its:List Value)(n:Nat),Vals xs its/\xs.length=its.length/\s.heap.get? l=some {cls:= .type "list",data:= .seq its.toArray n}:=by
 obtain⟨z,its,n,r,e⟩:=I.hok l _ hH
 exact⟨z,its,n,r,r.length,e⟩
theorem aUc {n:Nat}(h:n<=sizeLine):Builtin.List.listTooLong n=false:=by
 unfold Builtin.List.listTooLong
 exact decide_eq_false (by lia)
end
section
variable{X:Cx}
noncomputable def aQd:V->List V->Hp->VK->Prop:=fun x vs H Q=> ∃l xs y,x= .ref l/\vs=[y]/\H l=some (.lst xs)/\xs.length<sizeLine/\Q .non (upd H l (.lst (xs++[y])))
theorem DP:MtM X "list.append" aQd:=by
 intro pins s σ H x vs v us Q I rx rv h
 obtain⟨l,xs,y,rfl,rfl,hH,hz,q⟩:=h
 cases rx
 obtain⟨u,rfl,ru⟩:=rv.one
 obtain⟨z,its,n,r,hl,e⟩:=I.aUb hH
 refine call_meets F.slot_list_append ⟨_,e,rfl⟩ F.entry_list_append (F.args_list_append_2 _ _) (PySem.list_append l its.toArray n u (by rw[List.size_toArray];lia)) ⟨e,?_⟩
 refine⟨.non,_,I.bCt (its':=its++[u]) hH e (by simp) (r.append (.cons ru .nil)) ?_,rfl,q⟩
 rw[List.length_append,List.length_singleton]
 lia
noncomputable def RB:V->List V->Hp->VK->Prop:=fun x vs H Q=> ∃l b xs zs,x= .ref l/\vs=[.ref b]/\H l=some (.lst xs)/\H b=some (.lst zs)/\xs.length+zs.length<=sizeLine/\Q .non (upd H l (.lst (xs++zs)))
theorem mV:MtM X "list.extend" RB:=by
 intro pins s σ H x vs v us Q I rx rv h
 obtain⟨l,b,xs,zs,rfl,rfl,hH,hB,hz,q⟩:=h
 cases rx
 obtain⟨u,rfl,ru⟩:=rv.one
 cases ru
 obtain⟨z,its,n,r,hl,e⟩:=I.aUb hH
 obtain⟨z2,its2,n2,r2,hl2,e2⟩:=I.aUb hB
 have hsz:its.toArray.size+its2.toArray.size<=sizeLine:=by rw[List.size_toArray,List.size_toArray];lia
 have hlong: ¬(!its.toArray.isEmpty&&Builtin.List.listTooLong (its.toArray.size+its2.toArray.size))=true:=by
  rw[aUc hsz,Bool.and_false]
  exact Bool.false_ne_true
 refine call_meets F.slot_list_extend ⟨_,e,rfl⟩ F.entry_list_extend (F.args_list_extend_2 _ _)
  (AutoSeq1.list_extend_list_list_0 l its.toArray n b its2.toArray n2 hlong (by rw[List.size_toArray];lia) (by lia)) ⟨e,e2,?_⟩
 refine⟨.non,_,I.bCt (its':=its++its2) hH e (by simp) (r.append r2) ?_,rfl,q⟩
 rw[List.length_append]
 lia
noncomputable def bCu:R2:=fun x y H Q=> ∃l b xs zs,x= .ref l/\y= .ref b/\H l=some (.lst xs)/\H b=some (.lst zs)/\xs.length+zs.length<=sizeLine/\ ∀p,H p=none->Q (.ref p) (upd H p (.lst (xs++zs)))
theorem U6:OpR X (binaryOp .Add) bCu:=by
 intro pins s σ H x y v u Q I rx ry h
 obtain⟨l,b,xs,zs,rfl,rfl,hH,hB,hz,q⟩:=h
 cases rx
 cases ry
 obtain⟨z,its,n,r,hl,e⟩:=I.aUb hH
 obtain⟨z2,its2,n2,r2,hl2,e2⟩:=I.aUb hB
 refine PySem.P.add_list e e2 ?_ (by rw[List.size_toArray,List.size_toArray];lia)
 have ea:its.toArray++its2.toArray=(its++its2).toArray:=by simp
 rw[ea]
 exact⟨.ref _,_,I.bEs (t':=s.toks) (r.append r2) (by rw[List.length_append];lia),rfl,q _ I.fresh⟩
end
end L2
namespace L2
open PySem PySem.Spec PyProof.Rows
theorem Vals.bCv {a:Addr}{us:List Value}(r:Vals [V.ref a] us):us=[Value.ref a]:=by
 cases r with
 |cons r t=>
  cases t
  cases r
  rfl
section
variable{X:Cx}
theorem aQe {ys:List V}(f:ys.all uY=true){j:Nat}{z:V}(h:ys[j]?=some z):uY z=true:=List.all_eq_true.mp f z (List.mem_of_getElem? h)
end
mutual
inductive Dp (K:PySem.W.Frag)(H:Hp):V->PyData->Prop
 |non:Dp K H .non .none
 |bl (b:Bool):Dp K H (.bl b) (.bool b)
 |int (i:Int):Dp K H (.int i) (.int i)
 |str (x:Str):Dp K H (.str x) (.str x)
 |lst {a:Addr} {xs:List V} {ds:List PyData}:SqL K H a xs->aLl K H xs ds->Dp K H (.ref a) (.list ds)
 |tup {a:Addr} {xs:List V} {ds:List PyData}:SqT K H a xs->aLl K H xs ds->Dp K H (.ref a) (.tuple ds)
inductive aLl (K:PySem.W.Frag) (H:Hp):List V->List PyData->Prop
 |nil:aLl K H [] []
 |cons {v:V} {vs:List V} {d:PyData} {ds:List PyData}:Dp K H v d->aLl K H vs ds->aLl K H (v::vs) (d::ds)
end
end L2
namespace L2
open PySem PySem.Spec PyProof.Rows
noncomputable abbrev aUd (h:Heap)(c:Addr)(v:Option Value):Prop:=h.IsCell c v
noncomputable def bEt (scope sc:Scope):Scope:=
 {scope with names:=scope.names.map fun(n,k)=>if(k== .free&&sc.kind== .function&&sc.names.lookup n==some .cell) then(n,.cell) else(n,k)}
noncomputable def iD (cells:List (Str×Addr)):List (Str×NameKind)->List (Str×Addr)->List (Str×Addr)
 |[],acc=>acc
 |(n,k)::r,acc=>if k== .free then iD cells r ((n,(cells.lookup n).getD 0)::acc) else iD cells r acc
theorem WD (env:Env)(f:Str×NameKind->List (Str×Addr)->Sem (ForInStep (List (Str×Addr))))
  (hf: ∀n k c,f (n,k) c=if k== .free then(do let a <- cellOf env n;pure (.yield ((n,a)::c))) else pure (.yield c)):
  ∀(names:List (Str×NameKind))(acc:List (Str×Addr)),(∀y∈names,y.2= .free-> ∃c,env.cells.lookup y.1=some c)->forIn names acc f=pure (iD env.cells names acc)
 |[],acc,_=>by rw[List.forIn_nil];rfl
 |(n,k)::r,acc,h=>by
  rw[List.forIn_cons,hf]
  have ih:=fun acc=>WD env f hf r acc fun y hy=>h y (List.mem_cons_of_mem _ hy)
  unfold iD
  by_cases hk:(k==NameKind.free)=true
  .rw[if_pos hk,if_pos hk]
   obtain⟨c,hc⟩:=h (n,k) List.mem_cons_self (by simpa using hk)
   have e:cellOf env n=pure c:=by unfold cellOf;rw[hc]
   rw[e]
   have e2:(env.cells.lookup n).getD 0=c:=by rw[hc];rfl
   rw[e2]
   exact ih _
  .rw[if_neg hk,if_neg hk]
   exact ih _
theorem aOf {scope:Scope}{env:Env}(h: ∀y∈scope.names,y.2= .free-> ∃c,env.cells.lookup y.1=some c):closureFor scope env=pure (iD env.cells scope.names []):=by
 simp only[closureFor]
 rw[WD env _ (fun n k c=>rfl) scope.names [] h]
 rfl
theorem mem_lookup {α:Type}: ∀{l:List (Str×α)}{n:Str}{c:α},(n,c)∈l-> ∃c',l.lookup n=some c'
 |(k,v)::r,n,c,h=>by
  rw[List.lookup_cons]
  cases hb:n==k with
  |true=>exact⟨_,rfl⟩
  |false=>
   rcases List.mem_cons.mp h with e|h
   .cases e;simp at hb
   .exact mem_lookup h
theorem yN {cells:List (Str×Addr)}: ∀{names:List (Str×NameKind)}{acc:List (Str×Addr)}{n:Str}{c:Addr},(n,c)∈iD cells names acc->(n,c)∈acc\/((n,.free)∈names/\c=(cells.lookup n).getD 0)
 |[],_,_,_,h=> .inl h
 |(m,k)::r,acc,n,c,h=>by
  unfold iD at h
  split at h
  .rename_i hk
   have hk:k= .free:=by simpa using hk
   rcases yN h with h|⟨h1,h2⟩
   .rcases List.mem_cons.mp h with e|h
    .cases e;exact .inr ⟨hk▸List.mem_cons_self,rfl⟩
    .exact .inl h
   .exact .inr ⟨List.mem_cons_of_mem _ h1,h2⟩
  .rcases yN h with h|⟨h1,h2⟩
   .exact .inl h
   .exact .inr ⟨List.mem_cons_of_mem _ h1,h2⟩
theorem M9 {cells:List (Str×Addr)}: ∀{names:List (Str×NameKind)}{acc:List (Str×Addr)}{p:Str×Addr},p∈acc->p∈iD cells names acc
 |[],_,_,h=>h
 |(m,k)::r,acc,p,h=>by
  unfold iD
  split
  .exact M9 (List.mem_cons_of_mem _ h)
  .exact M9 h
theorem MF {cells:List (Str×Addr)}: ∀{names:List (Str×NameKind)}{acc:List (Str×Addr)}{n:Str},(n,.free)∈names->(n,(cells.lookup n).getD 0)∈iD cells names acc
 |(m,k)::r,acc,n,h=>by
  unfold iD
  rcases List.mem_cons.mp h with e|h
  .cases e
   exact M9 List.mem_cons_self
  .split
   .exact MF h
   .exact MF h
theorem DQ: ∀{names:List (Str×NameKind)}{h:Heap}{acc:List (Str×Addr)}{x:Str}{c:Addr},(x,c)∈cellsFrom h.objs.size names acc->
  (x,c)∈acc\/((x,.cell)∈names/\h.objs.size<=c/\aUd (pushCells h names) c none)
 |[],_,_,_,_,h=> .inl h
 |(n,k)::r,h,acc,x,c,hm=>by
  unfold cellsFrom at hm
  unfold pushCells
  split at hm
  .rename_i hk
   rw[if_pos hk]
   have hk:k= .cell:=by simpa using hk
   rw[<- Heap.size_push h {cls:= .type "cell",data:= .cell none}] at hm
   rcases DQ hm with hm|⟨h1,h2,h3⟩
   .rcases List.mem_cons.mp hm with e|hm
    .cases e
     exact .inr ⟨hk▸List.mem_cons_self,Nat.le_refl _,_,pushCells_keeps r _ _ _ (Heap.get?_push_size _ rfl),rfl⟩
    .exact .inl hm
   .rw[Heap.size_push] at h2
    exact .inr ⟨List.mem_cons_of_mem _ h1,Nat.le_of_succ_le h2,h3⟩
  .rename_i hk
   rw[if_neg hk]
   rcases DQ hm with hm|⟨h1,h2,h3⟩
   .exact .inl hm
   .exact .inr ⟨List.mem_cons_of_mem _ h1,h2,h3⟩
theorem RD: ∀{names:List (Str×NameKind)}{n:Nat}{acc:List (Str×Addr)}{p:Str×Addr},p∈acc->p∈cellsFrom n names acc
 |[],_,_,_,h=>h
 |(m,k)::r,n,acc,p,h=>by
  unfold cellsFrom
  split
  .exact RD (List.mem_cons_of_mem _ h)
  .exact RD h
theorem Z9: ∀{names:List (Str×NameKind)}{n:Nat}{acc:List (Str×Addr)}{x:Str},(x,.cell)∈names-> ∃c,(x,c)∈cellsFrom n names acc
 |(m,k)::r,n,acc,x,h=>by
  unfold cellsFrom
  rcases List.mem_cons.mp h with e|h
  .cases e
   exact⟨n,RD List.mem_cons_self⟩
  .split
   .exact Z9 h
   .exact Z9 h
theorem ZC: ∀{names:List (Str×NameKind)}{h:Heap}{acc:List (Str×Addr)}{x y:Str}{c:Addr},(∀p∈acc,p.2<h.objs.size)->(∀x y c,(x,c)∈acc->(y,c)∈acc->x=y)->
  (x,c)∈cellsFrom h.objs.size names acc->(y,c)∈cellsFrom h.objs.size names acc->x=y
 |[],_,_,_,_,_,_,hi,h1,h2=>hi _ _ _ h1 h2
 |(n,k)::r,h,acc,x,y,c,hl,hi,h1,h2=>by
  unfold cellsFrom at h1 h2
  split at h1
  .rename_i hk
   rw[if_pos hk] at h2
   rw[<- Heap.size_push h {cls:= .type "cell",data:= .cell none}] at h1 h2
   refine ZC (h:=h.push _) (fun p hp=>?_) (fun x y c a b=>?_) h1 h2
   .rw[Heap.size_push]
    rcases List.mem_cons.mp hp with rfl|hp
    .exact Nat.lt_succ_self _
    .exact Nat.lt_succ_of_lt (hl p hp)
   .rcases List.mem_cons.mp a with e|a <;>rcases List.mem_cons.mp b with e'|b
    .cases e;cases e';rfl
    .cases e;exact absurd (hl _ b) (Nat.lt_irrefl _)
    .cases e';exact absurd (hl _ a) (Nat.lt_irrefl _)
    .exact hi _ _ _ a b
  .rename_i hk
   rw[if_neg hk] at h2
   exact ZC hl hi h1 h2
theorem aLm {M:Model}{A:Around}{E:Value->Shared->Prop}{s:Shared}{scope:Scope}{globals:Addr}{closure:List (Str×Addr)}{qual:Str}{func:Option Addr}{code:Value}{around:Env}{builtins:Addr}{Q:Env->Shared->Prop}
  (h:Q (newEnv scope s.heap.objs.size globals (cellsFrom (s.heap.objs.size+1) scope.names closure) qual func code (some around) builtins)
   {s with heap:=pushCells (s.heap.push {cls:= .type "dict",data:= .dict #[]}) scope.names}):
  wpAny M A (newFunctionEnv scope globals closure [] qual func code (some around) builtins) Q E s:=by
 simp only[newFunctionEnv,Option.isSome_some,if_true]
 refine wpAny_bind (wpAny_alloc ?_)
 refine wpAny_bind (wpAny_layCells _ (fun n k c=>rfl) scope.names closure _ _ ?_)
 rw[show ({s with heap:=s.heap.push {cls:= .type "dict",data:= .dict #[]}}:Shared).heap.objs.size=s.heap.objs.size+1 from Heap.size_push ..]
 rw[List.forIn_nil]
 exact wpAny_bind (wpAny_pure (wpAny_pure h))
theorem MJ {sc:Scope}: ∀{names:List (Str×NameKind)}{x:Str}{k:NameKind},
  (names.map fun(n,k)=>if(k==NameKind.free&&sc.kind== .function&&sc.names.lookup n==some .cell) then(n,NameKind.cell) else(n,k)).lookup x=some k->
  ∃k',names.lookup x=some k'/\(k=k'\/(k'= .free/\k= .cell))
 |[],_,_,h=>by simp at h
 |(n,k₀)::r,x,k,h=>by
  have ih:= @MJ sc r x k
  have h':List.lookup x ((if(k₀==NameKind.free&&sc.kind== .function&&sc.names.lookup n==some .cell)=true then(n,NameKind.cell) else(n,k₀))::(r.map _))=some k:=h
  cases hx:x==n with
  |true=>
   simp only[List.lookup_cons,hx]
   by_cases hc:(k₀==NameKind.free&&sc.kind== .function&&sc.names.lookup n==some .cell)=true
   .rw[if_pos hc] at h'
    simp only[List.lookup_cons,hx] at h'
    cases h'
    simp only[Bool.and_eq_true,beq_iff_eq] at hc
    exact⟨k₀,rfl,.inr ⟨hc.1.1,rfl⟩⟩
   .rw[if_neg hc] at h'
    simp only[List.lookup_cons,hx] at h'
    cases h'
    exact⟨_,rfl,.inl rfl⟩
  |false=>
   simp only[List.lookup_cons,hx]
   by_cases hc:(k₀==NameKind.free&&sc.kind== .function&&sc.names.lookup n==some .cell)=true
   .rw[if_pos hc] at h'
    simp only[List.lookup_cons,hx] at h'
    exact ih h'
   .rw[if_neg hc] at h'
    simp only[List.lookup_cons,hx] at h'
    exact ih h'
structure aAr (N:List Str)(sc scope:Scope)(own:List (Str×Nat)):Prop where
 kind:scope.kind= .function
 uniq: ∀y∈scope.names,scope.names.lookup y.1=some y.2
 ix: ∀p∈own,N[p.2]?=some p.1
 free: ∀y∈scope.names,y.2= .free->sc.names.lookup y.1=some .cell\/sc.names.lookup y.1=some .free
 own: ∀y∈scope.names,y.2= .local\/y.2= .cell->y.1∈own.map (·.1)\/y.1∉N
noncomputable def wipe (σ:St):List Nat->St
 |[]=>σ
 |v::vs=>(wipe σ vs).set v none
theorem MK (σ:St): ∀vs:List Nat,(wipe σ vs).length=σ.length
 |[]=>rfl
 |v::vs=>by unfold wipe;rw[List.length_set,MK σ vs]
theorem ZD {σ:St}{i:Nat}{x:V}: ∀{vs:List Nat},(wipe σ vs)[i]?=some (some x)->σ[i]?=some (some x)/\i∉vs
 |[],h=>⟨h,by simp⟩
 |v::vs,h=>by
  unfold wipe at h
  by_cases hi:v=i
  .subst hi
   by_cases hv:v<(wipe σ vs).length
   .rw[List.getElem?_set_self hv] at h;cases h
   .rw[List.getElem?_eq_none (by simpa using hv)] at h;cases h
  .rw[List.getElem?_set_ne hi] at h
   obtain⟨h1,h2⟩:=ZD h
   exact⟨h1,by simp only[List.mem_cons,not_or];exact⟨fun e=>hi e.symm,h2⟩⟩
noncomputable abbrev Cx.blk (X:Cx)(s:Shared)(H:Hp)(scope:Scope)(cenv:Env)(fp:List Addr):Cx:={X with s_0:=s,H_0:=H,env:=cenv,outer:=X.stack,ex:=fp,fn:=fun x=>scope.names.lookup x==some .cell,pn:=[],xe:=fun _ _=>False}
section
variable{X:Cx}{pins:List (Addr×Obj)}{σ:St}{H:Hp}{s:Shared}
theorem aLn {scope:Scope}{own:List (Str×Nat)}{fp:List Addr}(I:Inv X pins σ H s)(ok:aAr X.N X.env.scope scope own)(hN:X.N.Nodup)(hfp: ∀b∈fp,aCi X pins H b/\b<s.heap.objs.size):
  Inv (X.blk s H scope (compEnvC scope (cellsFrom (s.heap.objs.size+1) scope.names (iD X.env.cells scope.names [])) s.heap.objs.size X.env) fp) [] (wipe σ (own.map (·.2))) H {s with heap:=pushCells (s.heap.push {cls:= .type "dict",data:= .dict #[]}) scope.names}:=by
 have hfree: ∀y∈scope.names,y.2= .free-> ∃c,X.env.cells.lookup y.1=some c:=fun y hy e=>by
  rcases ok.free y hy e with k|k
  .exact I.ok.has _ (.inl k)
  .exact I.ok.has _ (.inr k)
 generalize hcenv:compEnvC scope (cellsFrom (s.heap.objs.size+1) scope.names (iD X.env.cells scope.names [])) s.heap.objs.size X.env=cenv
 have kp: ∀b o,s.heap.get? b=some o->(pushCells (s.heap.push {cls:= .type "dict",data:= .dict #[]}) scope.names).get? b=some o:=fun b o e=>pushCells_keeps _ _ _ _ (Heap.get?_push_of_some _ e)
 have hL:cenv.locals=s.heap.objs.size:=by rw[<- hcenv];rfl
 have hcl:cenv.cells=cellsFrom (s.heap.objs.size+1) scope.names (iD X.env.cells scope.names []):=by rw[<- hcenv];rfl
 have hsc:cenv.scope=bEt scope X.env.scope:=by rw[<- hcenv];rfl
 rw[<- Heap.size_push s.heap {cls:= .type "dict",data:= .dict #[]}] at hcl
 have cm: ∀{y c},(y,c)∈iD X.env.cells scope.names []->X.env.cells.lookup y=some c/\c<s.heap.objs.size:=fun{y c} hm=>by
  rcases yN hm with hm|⟨h1,rfl⟩
  .cases hm
  .obtain⟨c,hc⟩:=hfree _ h1 rfl
   rw[hc]
   obtain⟨w,z⟩:=I.cell _ _ hc
   exact⟨rfl,z.lt⟩
 have mem: ∀{y c},cenv.cells.lookup y=some c->(X.env.cells.lookup y=some c/\c<s.heap.objs.size)\/(s.heap.objs.size+1<=c/\aUd (pushCells (s.heap.push {cls:= .type "dict",data:= .dict #[]}) scope.names) c none):=fun{y c} e=>by
  rw[hcl] at e
  rcases DQ (PySem.mem_of_lookup e) with hm|⟨_,h2,h3⟩
  .exact .inl (cm hm)
  .rw[Heap.size_push] at h2;exact .inr ⟨h2,h3⟩
 have look: ∀{y},scope.names.lookup y=some .free-> ∃c,cenv.cells.lookup y=some c/\X.env.cells.lookup y=some c:=fun{y} hl=>by
  have hy:(y,NameKind.free)∈scope.names:=PySem.mem_of_lookup hl
  obtain⟨c',e'⟩:=mem_lookup (RD (names:=scope.names) (n:=(s.heap.push {cls:= .type "dict",data:= .dict #[]}).objs.size) (MF (cells:=X.env.cells) (acc:=[]) hy))
  rw[<- hcl] at e'
  refine⟨c',e',?_⟩
  rw[hcl] at e'
  rcases DQ (PySem.mem_of_lookup e') with hm|⟨h1,_,_⟩
  .exact(cm hm).1
  .have:=ok.uniq _ h1
   rw[hl] at this;cases this
 have okB:(X.blk s H scope cenv fp).Ok:=by
  refine⟨I.ok.mod,by show cenv.scope.kind=_;rw[hsc];exact ok.kind,by show cenv.globals=_;rw[<- hcenv];exact I.ok.glob,by show cenv.builtins=_;rw[<- hcenv];exact I.ok.blt,by show s.heap.objs.size<=cenv.locals;rw[hL];exact Nat.le_refl _,
   fun y z c e1 e2=>?_,fun y hy=>?_,fun y c z e=>?_,I.ok.hd,I.ok.frames,.inl rfl,fun b hb=>⟨?_,fun y c e z=>?_⟩,I.bs,Nat.le_trans I.ok.bsz I.sz,fun b o e hb=>?_,fun b hb z=>?_,I.stack,I.aI6⟩
  .have e1:cenv.cells.lookup y=some c:=e1
   have e2:cenv.cells.lookup z=some c:=e2
   rw[hcl] at e1 e2
   refine ZC (fun p hp=>?_) (fun y z c a b=>I.ok.inj y z c (cm a).1 (cm b).1) (PySem.mem_of_lookup e1) (PySem.mem_of_lookup e2)
   rw[Heap.size_push]
   exact Nat.lt_succ_of_lt (cm (y:=p.1) (c:=p.2) hp).2
  .show ∃c,cenv.cells.lookup y=some c
   have key: ∀k,cenv.kindOf y=some k->(k= .cell\/k= .free)-> ∃c,cenv.cells.lookup y=some c:=fun k hk hk'=>by
    unfold Env.kindOf at hk
    rw[hsc] at hk
    obtain⟨k',e,r⟩:=MJ hk
    have:k'= .cell\/k'= .free:=by
     rcases r with rfl|⟨rfl,_⟩
     .exact hk'
     .exact .inr rfl
    rcases this with rfl|rfl
    .obtain⟨c,hm⟩:=Z9 (n:=(s.heap.push {cls:= .type "dict",data:= .dict #[]}).objs.size) (acc:=iD X.env.cells scope.names []) (PySem.mem_of_lookup e)
     obtain⟨c',e'⟩:=mem_lookup hm
     exact⟨c',by rw[hcl];exact e'⟩
    .obtain⟨c,h1,_⟩:=look e
     exact⟨c,h1⟩
   rcases hy with hy|hy
   .exact key _ hy (.inl rfl)
   .exact key _ hy (.inr rfl)
  .have z:(scope.names.lookup y==some NameKind.cell)=true:=z
   have z:scope.names.lookup y=some .cell:=by simpa using z
   have e:cenv.cells.lookup y=some c:=e
   rw[hcl] at e
   rcases DQ (PySem.mem_of_lookup e) with hm|⟨_,h2,_⟩
   .rcases yN hm with hm|⟨h1,_⟩
    .cases hm
    .have q:=ok.uniq _ h1
     rw[z] at q;cases q
   .rw[Heap.size_push] at h2
    exact Nat.le_of_succ_le h2
  .show b≠cenv.locals
   rw[hL];exact Nat.ne_of_lt (hfp b hb).2
  .have e:cenv.cells.lookup y=some c:=e
   rcases mem e with ⟨h1,_⟩|⟨h1,_⟩
   .exact(hfp b hb).1.2.2.2.2.1 y c h1 z
   .have h2:s.heap.objs.size+1<=b:=by rw[<- z];exact h1
    exact absurd (Nat.lt_of_lt_of_le (hfp b hb).2 (Nat.le_of_succ_le h2)) (Nat.lt_irrefl _)
  .rcases(hfp b hb).1.2.2.2.1 with z|z
   .exact I.ok.aCc b o e z
   .exact absurd (Nat.lt_of_lt_of_le (Heap.lt_size e) (Nat.le_trans I.ok.bsz z)) (Nat.lt_irrefl _)
  .rcases List.mem_cons.mp (I.aI5 b z) with z|z
   .exact(hfp b hb).1.2.1 z
   .exact(hfp b hb).1.2.2.1 z
 refine⟨okB,rfl,I.bare,Un.kept kp,⟨fun _=>none,?_,fun i y av e1 e2 e3=>?_⟩,fun y c e=>?_,?_,fun y c e=>?_,fun p hp=>?_,I.hok.kept kp,by rw[MK];exact I.len⟩
 .show Heap.Ns _ cenv.locals _
  rw[hL]
  exact Heap.Ns.keeps (Heap.Ns.new ..) fun b o e=>pushCells_keeps _ _ _ _ e
 .obtain⟨e2,hne⟩:=ZD e2
  have hfr:scope.names.lookup y=some .free/\(cenv.kindOf y=some .cell\/cenv.kindOf y=some .free):=by
   have key: ∀k,cenv.scope.names.lookup y=some k->k= .local\/k= .cell\/k= .free->scope.names.lookup y=some .free/\(cenv.kindOf y=some .cell\/cenv.kindOf y=some .free):=fun k hk hk'=>by
    have hk0:=hk
    rw[hsc] at hk
    obtain⟨k',e,r⟩:=MJ hk
    have no: ¬(k'= .local\/k'= .cell):=fun hh=>by
     rcases ok.own _ (PySem.mem_of_lookup e) hh with e'|e'
     .obtain⟨p,hp,hpy⟩:=List.mem_map.mp e'
      have e3:=ok.ix p hp
      have:p.1=y:=hpy
      rw[this] at e3
      exact hne (List.mem_map.mpr ⟨p,hp,aCd hN e3 e1⟩)
     .exact e' (List.mem_of_getElem? e1)
    rcases r with rfl|⟨rfl,rfl⟩
    .rcases hk' with rfl|rfl|rfl
     .exact absurd (.inl rfl) no
     .exact absurd (.inr rfl) no
     .exact⟨e,.inr hk0⟩
    .exact⟨e,.inl hk0⟩
   have e3:Vis cenv.scope y:=e3
   rcases e3 with e3|e3|e3
   .exact key _ e3 (.inl rfl)
   .exact key _ e3 (.inr (.inl rfl))
   .exact key _ e3 (.inr (.inr rfl))
  obtain⟨m,hn,hl⟩:=I.loc
  have hvis:Vis X.env.scope y:=(ok.free _ (PySem.mem_of_lookup hfr.1) rfl).elim (fun k=> .inr (.inl k)) (fun k=> .inr (.inr k))
  obtain⟨w,r,q⟩:=hl i y av e1 e2 hvis
  refine⟨w,r,.inr ⟨hfr.2,?_⟩⟩
  obtain⟨c,h1,h2⟩:=look hfr.1
  rcases q with ⟨k,_⟩|⟨_,c',e',z⟩
  .have k:X.env.scope.names.lookup y=some .local:=k
   rcases ok.free _ (PySem.mem_of_lookup hfr.1) rfl with k'|k' <;>rw[show X.env.scope.names.lookup y=_ from k'] at k <;>cases k
  .rw[h2] at e';cases e'
   exact⟨c,h1,z.keeps kp⟩
 .have e:cenv.cells.lookup y=some c:=e
  rcases mem e with ⟨h1,_⟩|⟨_,z⟩
  .obtain⟨w,z⟩:=I.cell y c h1
   exact⟨w,z.keeps kp⟩
  .exact⟨_,z⟩
 .show H cenv.locals=none
  rw[hL];exact I.hok.fresh (Nat.le_refl _)
 .have e:cenv.cells.lookup y=some c:=e
  rcases mem e with ⟨h1,_⟩|⟨h1,_⟩
  .exact I.pC y c h1
  .exact I.hok.fresh (Nat.le_of_succ_le h1)
 .exact absurd (show p∈([]:List (Addr×Obj))++[] from hp) (by simp)
theorem bAb {E:Value->Shared->Prop}{D:Addr}{xs:List V}{y:V}{v:Value}{Q:Value->Shared->Prop}(I:Inv X pins σ H s)(hD:H D=some (.lst xs))(hz:xs.length<sizeLine)(r:RelV y v)
  (h: ∀s',Inv X pins σ (upd H D (.lst (xs++[y]))) s'->Q .none s'):wpAny (model X.prog X.w) X.A (call (.builtin "list.append") [.ref D,v]) Q E s:=by
 obtain⟨hz',its,n,ri,e⟩:=I.hok D _ hD
 have hl:=ri.length
 refine append_at (hsz:=by rw[List.size_toArray];lia) e fun h' sb ho'=>?_
 refine h {s with heap:=h'} (I.write (t':=s.toks) (by rw[hD];trivial) (.inl rfl) (fun b u hb q=>(sb.2 b hb).trans q) ⟨_,ho'⟩ ⟨by rw[List.length_append];exact hz,its++[v],n+1,ri.append (.cons r .nil),?_⟩)
 rw[ho']
 simp
noncomputable def PTs (X:Cx)(ifs:List Expr)(t:TT):Prop:=
 ∀(pins:List (Addr×Obj))(s:Shared)(σ:St)(H:Hp)(Q:Bool->Hp->Prop),Inv X pins σ H s->t σ H Q->
  wpAny (model X.prog X.w) X.A (forIn ifs true fun c r=>if r=true then do let ok <- isTrue c X.env (eval c X.env);pure (ForInStep.yield ok) else pure (ForInStep.yield r)) (TP X pins σ Q) X.xe s
noncomputable def bAc:TT:=fun _ H Q=>Q true H
theorem WK:PTs X [] bAc:=fun _ _ _ H _ I h=>wpAny_tests_nil ⟨H,I,h⟩
theorem aX1 {c:Expr}{t:TT}(h:PT X c t):PTs X [c] t:=fun pins s σ H Q I hw=>wpAny_tests_one (h pins s σ H Q I hw)
end
theorem aS2 {α:Type}{t:Sem α}{Q Q':α->Shared->Prop}{M:Model}{A:Around}{E:Value->Shared->Prop}{s:Shared}(h:wpAny M A t Q (fun _ _=>False) s)(hQ: ∀a s,Q a s->Q' a s):wpAny M A t Q' E s:=wpAny_mono h hQ fun _ _ z=>False.elim z
theorem aIf {prog:Program}{w:World}{A:Around}{R:Result->Shared->Prop}{s:Shared}{elt target iter:Expr}{ifs:List Expr}{scope:Scope}{pos:Pos}{it acc:Value}{env:Env}(I:Nat->Shared->Prop)
  (turn: ∀n s,I n s->wpAny (model prog w) A (pyNext it) (fun r s₁=>match r with
   |none=>R (.ok .next) s₁
   |some v=>wpAny (model prog w) A (letOwnedTupleGo target it v) (fun _ s₁'=>wpAny (model prog w) A (assign target env v) (fun _ s₂=>
     wpAny (model prog w) A (forIn ifs true fun c r=>if r=true then do let ok <- isTrue c env (eval c env);pure (ForInStep.yield ok) else pure (ForInStep.yield r)) (fun ok s₃=>
      if ok=true then wpAny (model prog w) A (eval elt env) (fun x s₄=>
       wpAny (model prog w) A (call (.builtin "list.append") [acc,x]) (fun _ s₅=> ∃m,m<n/\I m s₅) (notedBy (model prog w) A env fun e s'=>R (.error e) s') s₄) (notedBy (model prog w) A env fun e s'=>R (.error e) s') s₃
      else ∃m,m<n/\I m s₃) (notedBy (model prog w) A env fun e s'=>R (.error e) s') s₂) (notedBy (model prog w) A env fun e s'=>R (.error e) s') s₁') (notedBy (model prog w) A env fun e s'=>R (.error e) s') s₁) (notedBy (model prog w) A env fun e s'=>R (.error e) s') s)
  (n:Nat) (h:I n s):
  codeAny (model prog w) A (.compLoop (.ListComp elt [⟨target,iter,ifs,0⟩] scope pos) 0 it acc env) R s:=by
 refine codeAny_loop rfl I (fun n s hI=>?_) n h
 show wpAny _ A ((compTurn (.ListComp elt [⟨target,iter,ifs,0⟩] scope pos) 0 it acc env).onRaise (fun x=>do noteFrame x env;theTreesLotGoes x)) _ _ s
 refine wpAny_noted ?_
 rw[compTurn_list]
 refine wpAny_bind (wpAny_standAt (wpAny_bind (wpAny_mono (turn n s hI) (fun r s₁ h₁=>?_) fun _ _ h'=>h')))
 cases r with
 |none=>exact wpAny_pure h₁
 |some v=>
  refine wpAny_bind (wpAny_mono h₁ (fun _ s₁' h₁'=>?_) fun _ _ h'=>h')
  refine wpAny_bind (wpAny_mono h₁' (fun _ s₂ h₂=>wpAny_bind (wpAny_mono h₂ (fun ok s₃ h₃=>?_) fun _ _ h'=>h')) fun _ _ h'=>h')
  cases ok with
  |false=>exact wpAny_pure ⟨rfl,h₃⟩
  |true=>
   exact wpAny_bind (wpAny_bind (wpAny_mono h₃ (fun x s₄ h₄=>wpAny_bind (wpAny_mono h₄ (fun _ s₅ h₅=>wpAny_pure (wpAny_pure ⟨rfl,h₅⟩)) fun _ _ h'=>h')) fun _ _ h'=>h'))
section
variable{X:Cx}
noncomputable def tLc (wi:TI)(g:TG)(tt:TT)(te:TE)(vs:List Nat):TE:=fun σ H Q=>wi σ H fun J H1=> ∀D,H1 D=none-> ∃W:Nat->Nat->Hp->Prop,(∃m,W 0 m (upd H1 D (.lst [])))/\ ∀i m H,W i m H->
 (J.stop i H/\Q (.ref D) H)\/(J.go i H/\ ∃Nx:Hp->Prop,(∀H',Nx H'-> ∃m',m'<m/\W (i+1) m' H')/\ ∀x H',J.yld i H x H'->g x (wipe σ vs) H' fun σ2 H2=>wipe σ2 vs=wipe σ vs/\tt σ2 H2 fun b H3=>
  if b=true then te σ2 H3 fun y H4=> ∃acc,H4 D=some (.lst acc)/\acc.length<sizeLine/\Nx (upd H4 D (.lst (acc++[y]))) else Nx H3)
theorem aX2 {pins:List (Addr×Obj)}{s:Shared}{σ:St}{H:Hp}{Q:VK}{elt tg iter:Expr}{ifs:List Expr}{scope:Scope}{own:List (Str×Nat)}{pos pos':Pos}{wi:TI}{g:TG}{tt:TT}{te:TE}{use:Option (Value->Sem Unit)}{Qf:Value->Shared->Prop}
  (hc:X.calm=true) (hN:X.N.Nodup) (I:Inv X pins σ H s) (hi:PI X tg iter wi) (ok:aAr X.N X.env.scope scope own)
  (hg: ∀(s:Shared)(H:Hp)(C:Addr)(cl:List (Str×Addr))(fp:List Addr),PG (X.blk s H scope (compEnvC scope cl C X.env) fp) tg g) (ht: ∀(s:Shared)(H:Hp)(C:Addr)(cl:List (Str×Addr))(fp:List Addr),PTs (X.blk s H scope (compEnvC scope cl C X.env) fp) ifs tt)
  (he: ∀(s:Shared)(H:Hp)(C:Addr)(cl:List (Str×Addr))(fp:List Addr),PE (X.blk s H scope (compEnvC scope cl C X.env) fp) elt te) (hs: ∀x,foldedSetIterable iter X.env x=pure x)
  (h:tLc wi g tt te (own.map (·.2)) σ H Q)
  (hRR: ∀D C s' m H',Inv X pins σ H' s'->Q (.ref D) H'->s'.heap.Ns C m->aCi X pins H' C->compPost (model X.prog X.w) X.A X.xe use Qf (.ref D) C (.ok .next) s'):
  wpAny (model X.prog X.w) X.A (comprehension (.ListComp elt [⟨tg,iter,ifs,0⟩] scope pos) scope X.env pos' (newList []) false (eval iter X.env) use) Qf X.xe s:=by
 have hfree: ∀y∈scope.names,y.2= .free-> ∃c,X.env.cells.lookup y.1=some c:=fun y hy e=>by
  rcases ok.free y hy e with k|k
  .exact I.ok.has _ (.inl k)
  .exact I.ok.has _ (.inr k)
 refine wpAny_comprehension_free (use:=use) rfl hs (aOf hfree) ok.kind (fun y hy e=>by rw[ok.uniq y hy,e])
  (thn (hi pins s σ H _ I h) fun xv s1 hx=>thn hx fun itv s2 h2=>?_)
 obtain⟨it,fp,tn,J,H2,e,I2,T,st2,f2,q⟩:=h2
 subst e
 refine wpAny_newObj_type (aLm ?_) (by show 0<=sizeLine;decide)
 generalize hD:s2.heap.objs.size=D
 have hDn:H2 D=none:=I2.hok.fresh (Nat.le_of_eq hD)
 obtain⟨W,⟨m0,w0⟩,turn⟩:=q D hDn
 generalize hs3:({s2 with heap:=s2.heap.push {cls:= .type "list",data:= .seq ([]:List Value).toArray}}:Shared)=s3
 have I3:Inv X pins σ (upd H2 D (.lst [])) s3:=by
  rw[<- hs3]
  refine I2.laid (t':=s2.toks) (fun b o e=>Heap.get?_push_of_some _ e) (Nat.le_of_eq hD) ⟨Nat.zero_le _,[],0,.nil,?_⟩
  rw[<- hD]
  exact Heap.get?_push_size _ rfl
 have h3:s3.heap=s2.heap.push {cls:= .type "list",data:= .seq ([]:List Value).toArray}:=by rw[<- hs3]
 have sz: ∀b∈fp,b<s2.heap.objs.size:=fun b hb=>by
  obtain⟨o,e,_⟩:=T.obj _ _ st2 b hb
  exact Heap.lt_size e
 have f3: ∀b∈fp,aCi X pins (upd H2 D (.lst [])) b/\b<s3.heap.objs.size:=fun b hb=>by
  have hlt:=sz b hb
  refine⟨⟨?_,(f2 b hb).2⟩,by rw[h3,Heap.size_push];exact Nat.lt_succ_of_lt hlt⟩
  rw[aM (by rw[<- hD];exact Nat.ne_of_lt hlt)]
  exact(f2 b hb).1
 have st3:tn 0 s3.heap:=T.keep _ _ _ st2 fun b _ o e=>by rw[h3];exact Heap.get?_push_of_some _ e
 have I4:=aLn I3 ok hN f3
 have pg:=hg s3 (upd H2 D (.lst [])) s3.heap.objs.size (cellsFrom (s3.heap.objs.size+1) scope.names (iD X.env.cells scope.names [])) fp
 have pt:=ht s3 (upd H2 D (.lst [])) s3.heap.objs.size (cellsFrom (s3.heap.objs.size+1) scope.names (iD X.env.cells scope.names [])) fp
 have pe:=he s3 (upd H2 D (.lst [])) s3.heap.objs.size (cellsFrom (s3.heap.objs.size+1) scope.names (iD X.env.cells scope.names [])) fp
 show codeAny _ _ (.compStart (.ListComp elt [⟨tg,iter,ifs,0⟩] scope pos) 0 (.ref it) (.ref D) (compEnvC scope (cellsFrom (s3.heap.objs.size+1) scope.names (iD X.env.cells scope.names [])) s3.heap.objs.size X.env)) (compPost (model X.prog X.w) X.A X.xe use Qf (.ref D) s3.heap.objs.size) {s3 with heap:=pushCells (s3.heap.push {cls:= .type "dict",data:= .dict #[]}) scope.names}
 have nfp: ∀b∈fp,(upd H2 D (.lst [])) b=none:=fun b hb=>(f3 b hb).1.1
 generalize hce:compEnvC scope (cellsFrom (s3.heap.objs.size+1) scope.names (iD X.env.cells scope.names [])) s3.heap.objs.size X.env=ce at I4 pg pt pe ⊢
 have cL:ce.locals=s3.heap.objs.size:=by subst hce;rfl
 generalize hH3:upd H2 D (.lst [])=H3 at I3 I4 pg pt pe w0 nfp f3
 generalize hs4:({s3 with heap:=pushCells (s3.heap.push {cls:= .type "dict",data:= .dict #[]}) scope.names}:Shared)=s4 at I4 ⊢
 have st4:tn 0 s4.heap:=T.keep _ _ _ st3 fun b _ o e=>by rw[<- hs4];exact pushCells_keeps _ _ _ _ (Heap.get?_push_of_some _ e)
 have stat: ∀{σ':St}{H':Hp}{s':Shared},Inv (X.blk s3 H3 scope ce fp) [] σ' H' s'->(∀b∈fp,H' b=none)-> ∀b∈fp,aCi (X.blk s3 H3 scope ce fp) [] H' b:=fun{σ' H' s'} I' hn b hb=>
  ⟨hn b hb,(I'.ok.exf b hb).1,I'.ok.aLb b hb,.inl hb,fun x c e=>(I'.ok.exf b hb).2 x c e,fun p hp=>absurd (show p∈([]:List (Addr×Obj))++[] from hp) (by simp)⟩
 have loop:codeAny (model X.prog X.w) X.A (.compLoop (.ListComp elt [⟨tg,iter,ifs,0⟩] scope pos) 0 (.ref it) (.ref D) ce) (compPost (model X.prog X.w) X.A X.xe use Qf (.ref D) s3.heap.objs.size) s4:=by
  refine aIf (fun n s'=> ∃i H',Inv (X.blk s3 H3 scope ce fp) [] (wipe σ (own.map (·.2))) H' s'/\tn i s'.heap/\(∀b∈fp,H' b=none)/\W i n H') ?_ m0 ⟨0,H3,I4,st4,nfp,w0⟩
  rintro n s5 ⟨i,H5,I5,st5,n5,w5⟩
  rcases turn i n H5 w5 with ⟨stop,qq⟩|⟨go,Nx,hNx,step⟩
  .have td:=T.done (X.blk s3 H3 scope ce fp) rfl rfl rfl hc i [] s5 _ H5 (fun _ _=>False) I5 (stat I5 n5) st5 stop
   refine aS2 td fun r s6⟨hr,I6⟩=>?_
   subst hr
   have I7:Inv X pins σ H5 s6:=I3.call' (ch:=fp) I6.os I6.base I6.hok I6.bare fun b hb=>⟨(f3 b hb).1.2.2.2.1,(f3 b hb).1.2.1,(f3 b hb).1.2.2.2.2.1,(f3 b hb).1.2.2.2.2.2⟩
   have nC:H5 s3.heap.objs.size=none:=by
    have z:H5 ce.locals=none:=I6.free
    rw[cL] at z
    exact z
   obtain⟨m,hn,_⟩:=I6.loc
   have hn:s6.heap.Ns ce.locals m:=hn
   rw[cL] at hn
   exact hRR D s3.heap.objs.size s6 m H5 I7 qq hn (I3.aTt (Nat.le_refl _) nC)
  .have ti:=T.item (X.blk s3 H3 scope ce fp) rfl rfl rfl hc i [] s5 _ H5 (fun _ _=>False) I5 (stat I5 n5) st5 go
   refine aS2 ti fun r s6⟨u,hr,h6⟩=>?_
   subst hr
   refine aS2 h6 fun _ s7⟨x,H7,I7,r7,y7,st7,n7⟩=>?_
   have I7':=I7.pinned (stat I7 n7) (T.obj _ _ st7)
   refine aS2 (pg _ s7 _ H7 x u _ I7' r7 (step x H7 y7)) fun _ s8⟨σ8,H8,I8,hw8,q8⟩=>?_
   refine aS2 (pt _ s8 σ8 H8 _ I8 q8) fun b s9⟨H9,I9,q9⟩=>?_
   have fin: ∀{s':Shared}{H':Hp},Inv (X.blk s3 H3 scope ce fp) ([]++aCk fp s7.heap) σ8 H' s'->Nx H'-> ∃m,m<n/\ ∃i H',Inv (X.blk s3 H3 scope ce fp) [] (wipe σ (own.map (·.2))) H' s'/\tn i s'.heap/\(∀b∈fp,H' b=none)/\W i m H':=fun{s' H'} I' nx=>by
    obtain⟨m',hm,w'⟩:=hNx H' nx
    have pin': ∀b∈fp,∀o,s7.heap.get? b=some o->s'.heap.get? b=some o/\H' b=none:=fun b hb o e=>
     let z:=I'.pin (b,o) (List.mem_append_right _ (List.mem_append_right _ (U4 hb e)))
     ⟨z.1,z.2.1⟩
    have hl:(wipe σ (own.map (·.2))).length=σ8.length:=by rw[<- hw8,MK]
    refine⟨m',hm,i+1,H',(I'.W9 (pins:=[])).weak hl (fun j v e=>?_),T.keep _ _ _ st7 fun b hb o e=>(pin' b hb o e).1,fun b hb=>?_,w'⟩
    .rw[<- hw8] at e
     exact(ZD e).1
    .obtain⟨o,e,_⟩:=T.obj _ _ st7 b hb
     exact(pin' b hb o e).2
   cases b with
   |false=>
    simp only[Bool.false_eq_true,if_false] at q9 ⊢
    exact fin I9 q9
   |true=>
    simp only[if_true] at q9 ⊢
    refine aS2 (pe _ s9 σ8 H9 _ I9 q9) fun z s10⟨yv,H10,I10,r10,acc,hD10,hz10,nx⟩=>?_
    exact bAb (X:=X.blk s3 H3 scope ce fp) I10 hD10 hz10 r10 fun s11 I11=>fin I11 nx
 exact codeAny_compStart_list loop (T.self X.A 0 _ _ _ st4 loop)
theorem aGw {elt tg iter:Expr}{ifs:List Expr}{scope:Scope}{own:List (Str×Nat)}{pos:Pos}{wi:TI}{g:TG}{tt:TT}{te:TE}(hc:X.calm=true)(hN:X.N.Nodup)(hi:PI X tg iter wi)(ok:aAr X.N X.env.scope scope own)
  (hg: ∀(s:Shared)(H:Hp)(C:Addr)(cl:List (Str×Addr))(fp:List Addr),PG (X.blk s H scope (compEnvC scope cl C X.env) fp) tg g) (ht: ∀(s:Shared)(H:Hp)(C:Addr)(cl:List (Str×Addr))(fp:List Addr),PTs (X.blk s H scope (compEnvC scope cl C X.env) fp) ifs tt)
  (he: ∀(s:Shared)(H:Hp)(C:Addr)(cl:List (Str×Addr))(fp:List Addr),PE (X.blk s H scope (compEnvC scope cl C X.env) fp) elt te) (hs: ∀x,foldedSetIterable iter X.env x=pure x:=by intro _;rfl):
  PE X (.ListComp elt [⟨tg,iter,ifs,0⟩] scope pos) (tLc wi g tt te (own.map (·.2))):=by
 intro pins s σ H Q I h
 rw[eval_ListComp]
 refine aX2 hc hN I hi ok hg ht he hs h fun D C s' m H' I' q hn f=>⟨m,hn,fun h'' sb=>?_⟩
 obtain⟨f0,f1,f2,f3,f4,f5⟩:=f
 exact⟨.ref D,H',I'.turned (t':=s'.toks) (fun b o hb e=>(sb.2 b hb).trans e) f0 f1 f3 f4 f5,rfl,q⟩
end
theorem WL {lo:Int}{n:Nat}{g:TG}{tt:TT}{te:TE}{vs:List Nat}{σ:St}{H1:Hp}{D:Addr}{Qd:Hp->Prop}(Pv:Nat->Hp->Prop)(h0:Pv 0 (upd H1 D (.lst [])))
  (hs: ∀i H,i<n->Pv i H->g (.int (lo+i)) (wipe σ vs) H fun σ2 H2=>wipe σ2 vs=wipe σ vs/\tt σ2 H2 fun b H3=>
   if b=true then te σ2 H3 fun y H4=> ∃acc,H4 D=some (.lst acc)/\acc.length<sizeLine/\Pv (i+1) (upd H4 D (.lst (acc++[y]))) else Pv (i+1) H3) (hd: ∀H,Pv n H->Qd H):
  ∃W:Nat->Nat->Hp->Prop,(∃m,W 0 m (upd H1 D (.lst [])))/\ ∀i m H,W i m H->
   ((Itr lo n).stop i H/\Qd H)\/((Itr lo n).go i H/\ ∃Nx:Hp->Prop,(∀H',Nx H'-> ∃m',m'<m/\W (i+1) m' H')/\ ∀x H',(Itr lo n).yld i H x H'->g x (wipe σ vs) H' fun σ2 H2=>wipe σ2 vs=wipe σ vs/\tt σ2 H2 fun b H3=>
    if b=true then te σ2 H3 fun y H4=> ∃acc,H4 D=some (.lst acc)/\acc.length<sizeLine/\Nx (upd H4 D (.lst (acc++[y]))) else Nx H3):=by
 refine⟨fun i m H=>m=n-i/\i<=n/\Pv i H,⟨n,by simp,Nat.zero_le _,h0⟩,?_⟩
 rintro i m H ⟨rfl,hi,p⟩
 by_cases hlt:i<n
 .refine .inr ⟨hlt,Pv (i+1),fun H' p'=>⟨n-(i+1),by lia,rfl,hlt,p'⟩,fun x H' y=>?_⟩
  obtain⟨e,y⟩:=y
  subst e y
  exact hs i _ hlt p
 .have e:i=n:=by lia
  subst e
  exact .inl ⟨Nat.le_refl _,hd H p⟩
theorem aQf {K:PySem.W.Frag}{a:Addr}{xs:List V}{g:TG}{tt:TT}{te:TE}{vs:List Nat}{σ:St}{H1:Hp}{D:Addr}{Qd:Hp->Prop}(Pv:Nat->Hp->Prop)(h0:Pv 0 (upd H1 D (.lst [])))(hl: ∀i H,i<=xs.length->Pv i H->SqL K H a xs)
  (hs: ∀i x H,xs[i]?=some x->Pv i H->g x (wipe σ vs) H fun σ2 H2=>wipe σ2 vs=wipe σ vs/\tt σ2 H2 fun b H3=>
   if b=true then te σ2 H3 fun y H4=> ∃acc,H4 D=some (.lst acc)/\acc.length<sizeLine/\Pv (i+1) (upd H4 D (.lst (acc++[y]))) else Pv (i+1) H3) (hd: ∀H,Pv xs.length H->Qd H):
  ∃W:Nat->Nat->Hp->Prop,(∃m,W 0 m (upd H1 D (.lst [])))/\ ∀i m H,W i m H->
   ((Itl K a).stop i H/\Qd H)\/((Itl K a).go i H/\ ∃Nx:Hp->Prop,(∀H',Nx H'-> ∃m',m'<m/\W (i+1) m' H')/\ ∀x H',(Itl K a).yld i H x H'->g x (wipe σ vs) H' fun σ2 H2=>wipe σ2 vs=wipe σ vs/\tt σ2 H2 fun b H3=>
    if b=true then te σ2 H3 fun y H4=> ∃acc,H4 D=some (.lst acc)/\acc.length<sizeLine/\Nx (upd H4 D (.lst (acc++[y]))) else Nx H3):=by
 refine⟨fun i m H=>m=xs.length-i/\i<=xs.length/\Pv i H,⟨xs.length,by simp,Nat.zero_le _,h0⟩,?_⟩
 rintro i m H ⟨rfl,hi,p⟩
 have q:=hl i H hi p
 by_cases hlt:i<xs.length
 .refine .inr ⟨⟨xs,xs[i],q,by simp[hlt]⟩,Pv (i+1),fun H' p'=>⟨xs.length-(i+1),by lia,rfl,hlt,p'⟩,fun x H' y=>?_⟩
  obtain⟨e,y⟩:=y
  subst e
  exact hs i x _ (y xs q) p
 .have e:i=xs.length:=by lia
  subst e
  exact .inl ⟨⟨xs,q,Nat.le_refl _⟩,hd H p⟩
end L2
namespace L2
open PySem PySem.Spec PyProof.Rows
section
variable{κ:Type}[DecidableEq κ]
noncomputable def S5 (kvs:List (κ×V))(k:κ):Option V:=(kvs.find? fun kv=>decide (kv.1=k)).map (·.2)
noncomputable def putK (kvs:List (κ×V))(k:κ)(v:V):List (κ×V):=
 if(kvs.any fun kv=>decide (kv.1=k))=true then kvs.map (fun kv=>if kv.1=k then(kv.1,v) else kv) else kvs++[(k,v)]
noncomputable def bFm (kvs:List (κ×V))(k:κ):List (κ×V):=kvs.filter fun kv=>decide (kv.1≠k)
theorem WM {p:κ×V}{r:List (κ×V)}{k:κ}(e:p.1=k):S5 (p::r) k=some p.2:=by simp[S5,List.find?_cons,e]
theorem DR {p:κ×V}{r:List (κ×V)}{k:κ}(e: ¬p.1=k):S5 (p::r) k=S5 r k:=by simp[S5,List.find?_cons,e]
theorem aLo (k:κ): ∀kvs:List (κ×V),(kvs.any fun kv=>decide (kv.1=k))=(S5 kvs k).isSome
 |[]=>rfl
 |p::r=>by
  rw[List.any_cons]
  by_cases e:p.1=k
  .simp only[WM e,decide_eq_true e,Bool.true_or,Option.isSome_some]
  .rw[DR e,decide_eq_false e,Bool.false_or];exact aLo k r
theorem MN (kvs:List (κ×V))(k:κ)(v:V):(putK kvs k v).length<=kvs.length+1:=by
 unfold putK
 split
 .rw[List.length_map];lia
 .rw[List.length_append,List.length_cons,List.length_nil];lia
theorem RZ.aS3 {o:Option V}{u:Option Value}(r:RZ o u):o.isSome=u.isSome:=by
 cases o with
 |none=>cases u with
  |none=>rfl
  |some _=>exact(show False from r).elim
 |some _=>cases u with
  |none=>exact(show False from r).elim
  |some _=>rfl
theorem KV.val {kvs:List (κ×V)}{vs:List (κ×Value)}(r:KV kvs vs)(k:κ):RZ (S5 kvs k) (valueAt vs k):=by
 unfold KV at r
 induction r with
 |nil=>exact True.intro
 | @cons p q ps qs h t ih=>
  obtain⟨h1,h2⟩:=h
  by_cases e:p.1=k
  .have e':q.1=k:=h1.symm.trans e
   have b:valueAt (q::qs) k=some q.2:=by simp[valueAt,List.find?_cons,e']
   rw[WM e,b];exact h2
  .have e': ¬q.1=k:=fun z=>e (h1.trans z)
   have b:valueAt (q::qs) k=valueAt qs k:=by simp[valueAt,List.find?_cons,e']
   rw[DR e,b];exact ih
theorem KV.any {kvs:List (κ×V)}{vs:List (κ×Value)}(r:KV kvs vs)(k:κ):(kvs.any fun kv=>decide (kv.1=k))=vs.any fun kv=>decide (kv.1=k):=by
 unfold KV at r
 induction r with
 |nil=>rfl
 |cons h t ih=>rw[List.any_cons,List.any_cons,ih,h.1]
theorem KV.repl {kvs:List (κ×V)}{vs:List (κ×Value)}(r:KV kvs vs)(k:κ){y:V}{u:Value}(ry:RelV y u):
  KV (kvs.map fun kv=>if kv.1=k then(kv.1,y) else kv) (vs.map fun kv=>if kv.1=k then(kv.1,u) else kv):=by
 unfold KV at r ⊢
 induction r with
 |nil=>exact .nil
 | @cons p q ps qs h t ih=>
  rw[List.map_cons,List.map_cons]
  refine .cons ?_ ih
  obtain⟨h1,h2⟩:=h
  by_cases e:p.1=k
  .rw[if_pos e,if_pos (h1.symm.trans e)];exact⟨h1,ry⟩
  .rw[if_neg e,if_neg (fun z=>e (h1.trans z))];exact⟨h1,h2⟩
theorem KV.put {kvs:List (κ×V)}{vs:List (κ×Value)}(r:KV kvs vs)(k:κ){y:V}{u:Value}(ry:RelV y u):KV (putK kvs k y) (stored vs k u):=by
 unfold putK stored
 rw[r.any k]
 by_cases e:(vs.any fun kv=>decide (kv.1=k))=true
 .rw[if_pos e,if_pos e];exact r.repl k ry
 .rw[if_neg e,if_neg e];exact Paired.snoc r ⟨rfl,ry⟩
theorem KV.length {kvs:List (κ×V)}{vs:List (κ×Value)}(r:KV kvs vs):kvs.length=vs.length:=Paired.length r
end
theorem aQg {P:Program}{w:World}{k:Key}{u:Value}(r:RelV (kV k) u):(lD P w).is k u=true:=by
 cases k with
 |inl i=>obtain⟨t,e⟩:=(show ∃t,u=Value.int i t from r);subst e;exact aL9 P w i t
 |inr x=>obtain⟨t,e⟩:=(show ∃t,u=Value.str x t from r);subst e;exact aLa P w x t
theorem aGx {P:Program}{w:World}: ∀{ks:List Key}{us:List Value},Vals (ks.map kV) us->ItemsAre (lD P w) ks us
 |[],_,r=>by rw[List.map_nil] at r;cases r;exact .nil
 |k::ks,_,r=>by
  rw[List.map_cons] at r
  cases r with
  |cons h t=>exact .cons (aQg h) (aGx t)
noncomputable abbrev KT (H:Hp):List (List Key×V)->List (List Key×Addr×Value)->Prop:=Paired fun p q=>p.1=q.1/\H q.2.1=some (.tup (p.1.map kV))/\RelV p.2 q.2.2
theorem KT.val {H:Hp}{kvs:List (List Key×V)}{xs:List (List Key×Addr×Value)}(r:KT H kvs xs)(k:List Key):RZ (S5 kvs k) ((atKey xs k).map (·.2)):=by
 induction r with
 |nil=>exact True.intro
 | @cons p q ps qs h t ih=>
  obtain⟨h1,_,h2⟩:=h
  by_cases e:p.1=k
  .have e':q.1=k:=h1.symm.trans e
   have b:atKey (q::qs) k=some q.2:=by simp[atKey,List.find?_cons,e']
   rw[WM e,b];exact h2
  .have e': ¬q.1=k:=fun z=>e (h1.trans z)
   have b:atKey (q::qs) k=atKey qs k:=by simp[atKey,List.find?_cons,e']
   rw[DR e,b];exact ih
theorem KT.repl {H:Hp}{kvs:List (List Key×V)}{xs:List (List Key×Addr×Value)}(r:KT H kvs xs)(k:List Key){y:V}{u:Value}(ry:RelV y u):
  KT H (kvs.map fun kv=>if kv.1=k then(kv.1,y) else kv) (xs.map (putAt k u)):=by
 induction r with
 |nil=>exact .nil
 | @cons p q ps qs h t ih=>
  rw[List.map_cons,List.map_cons]
  refine .cons ?_ ih
  obtain⟨h1,h2,h3⟩:=h
  unfold putAt
  by_cases e:p.1=k
  .rw[if_pos e,if_pos (h1.symm.trans e)];exact⟨h1,h2,ry⟩
  .rw[if_neg e,if_neg (fun z=>e (h1.trans z))];exact⟨h1,h2,h3⟩
theorem KT.put {H:Hp}{kvs:List (List Key×V)}{xs:List (List Key×Addr×Value)}(r:KT H kvs xs)(k:List Key){b:Addr}{y:V}{u:Value}(hb:H b=some (.tup (k.map kV)))(ry:RelV y u):
  KT H (putK kvs k y) (storedH xs k b u):=by
 have e:(kvs.any fun kv=>decide (kv.1=k))=(atKey xs k).isSome:=by
  rw[aLo,(r.val k).aS3,Option.isSome_map]
 unfold putK storedH
 rw[e]
 by_cases q:(atKey xs k).isSome=true
 .rw[if_pos q,if_pos q];exact r.repl k ry
 .rw[if_neg q,if_neg q];exact Paired.snoc r ⟨rfl,hb,ry⟩
theorem KT.keeps {H H':Hp}{kvs:List (List Key×V)}{xs:List (List Key×Addr×Value)}(r:KT H kvs xs)(ht: ∀b ys,H b=some (.tup ys)->H' b=some (.tup ys)):KT H' kvs xs:=
 Paired.aTn r fun _ _ z=>⟨z.1,ht _ _ z.2.1,z.2.2⟩
section
variable{P:Program}{w:World}{H:Hp}{h:Heap}{a:Addr}
theorem aZ9 {u:HO}(ok:HOk P w H h)(e:Rd H a u):lJ P w H h a u:=e.ok ok
theorem aUe {kvs:List (Key×V)}(ok:HOk P w H h)(e:Rd H a (.dK kvs)):kvs.length<=sizeLine/\(a==sysModules)=false/\ ∃vs,KV kvs vs/\h.DictOf (lD P w) a vs:=
 show lJ P w H h a (.dK kvs) from aZ9 ok e
theorem aZa {kvs:List (Key×V)}(ok:HOk P w H h)(e:H a=some (.dK kvs)):kvs.length<=sizeLine/\(a==sysModules)=false/\ ∃vs,KV kvs vs/\h.DictOf (lD P w) a vs:=aUe ok (.inl e)
theorem aOg {ks:List Key}(ok:HOk P w H h)(e:H a=some (.tup (ks.map kV))):(tupleKind (lD P w)).is h ks a:=by
 obtain⟨_,its,r,o,h1,h2,n,h3⟩:=(show lJ P w H h a (.tup (ks.map kV)) from ok a _ e)
 exact⟨o,its.toArray,n,h1,h2,h3,by simpa using aGx r⟩
theorem aUf {kvs:List (List Key×V)}(ok:HOk P w H h)(e:Rd H a (.dT kvs)):kvs.length<=sizeLine/\(a==sysModules)=false/\
  ∃xs,KT H kvs xs/\h.DictOfH (tupleKind (lD P w)) a xs:=by
 obtain⟨z,y,xs,r,o,es,ep,h1,h2,h3,h4,h5⟩:=(show lJ P w H h a (.dT kvs) from aZ9 ok e)
 refine⟨z,y,xs,r,o,es,ep,h1,h2,h3,h4,fun x hx=>?_,h5⟩
 have all: ∀{l:List (List Key×V)}{m:List (List Key×Addr×Value)},KT H l m-> ∀x∈m,(tupleKind (lD P w)).is h x.1 x.2.1:=by
  intro l m q
  induction q with
  |nil=>intro x hx;exact nomatch hx
  | @cons p q ps qs hq t ih=>
   intro x hx
   rcases List.mem_cons.mp hx with e|hx
   .subst e
    exact aOg ok (by rw[<- hq.1];exact hq.2.1)
   .exact ih x hx
 exact all r x hx
theorem bCw {kvs:List (List Key×V)}(ok:HOk P w H h)(e:H a=some (.dT kvs)):kvs.length<=sizeLine/\(a==sysModules)=false/\
  ∃xs,KT H kvs xs/\h.DictOfH (tupleKind (lD P w)) a xs:=aUf ok (.inl e)
end
noncomputable def aIg (H:Hp)(a:Addr)(y:V)(r:Option V):Prop:=
 (∃kvs k,Rd H a (.dK kvs)/\y=kV k/\r=S5 kvs k)\/ ∃kvs k b,Rd H a (.dT kvs)/\y= .ref b/\H b=some (.tup (k.map kV))/\r=S5 kvs k
noncomputable def aIh (H:Hp)(a:Addr)(y v:V)(H':Hp):Prop:=
 (∃kvs k,H a=some (.dK kvs)/\y=kV k/\kvs.length<sizeLine/\H'=upd H a (.dK (putK kvs k v)))\/
 ∃kvs k b,H a=some (.dT kvs)/\y= .ref b/\H b=some (.tup (k.map kV))/\kvs.length<sizeLine/\H'=upd H a (.dT (putK kvs k v))
theorem aIg.k {H:Hp}{a:Addr}{kvs:List (Key×V)}{k:Key}(e:H a=some (.dK kvs)):aIg H a (kV k) (S5 kvs k):= .inl ⟨kvs,k,.inl e,rfl,rfl⟩
theorem aIh.k {H:Hp}{a:Addr}{kvs:List (Key×V)}{k:Key}{v:V}(e:H a=some (.dK kvs))(hl:kvs.length<sizeLine):aIh H a (kV k) v (upd H a (.dK (putK kvs k v))):= .inl ⟨kvs,k,e,rfl,hl,rfl⟩
section
variable{X:Cx}{pins:List (Addr×Obj)}{σ:St}{H:Hp}{s:Shared}{a:Addr}{y v:V}{u r:Value}{o:Option V}{A:Around}{E:Value->Shared->Prop}
theorem Inv.big (I:Inv X pins σ H s):sysModules<s.heap.objs.size:=by
 have h:mainGlobals<s.heap.objs.size:=(I.mod.glob.keeps I.bk).lt
 exact Nat.lt_trans (by decide) h
theorem aS4 {Q:Value->Shared->Prop}(hu:A.units+1<cLine)(I:Inv X pins σ H s)(g:aIg H a y (some v))(ry:RelV y u)(h: ∀w' s',Inv X pins σ H s'->RelV v w'->Q w' s'):
  wpAny (model X.prog X.w) A (getItem (.ref a) u) Q E s:=by
 rcases g with ⟨kvs,k,e,ey,l⟩|⟨kvs,k,b,e,ey,eb,l⟩
 .subst ey
  obtain⟨z,hd,vs,rel,dd⟩:=aUe I.hok e
  obtain⟨w',hw,rw'⟩:=RZ.some_of (v:=v) (o:=valueAt vs k) (by rw[l];exact rel.val k)
  exact wpAny_getItem_of (aQg ry) dd.mapOf hw (h w' _ (I.tok _) rw')
 .subst ey
  cases (show u=Value.ref b from ry)
  obtain⟨z,hd,xs,rel,dd⟩:=aUf I.hok e
  obtain⟨w',hw,rw'⟩:=RZ.some_of (v:=v) (o:=(atKey xs k).map (·.2)) (by rw[l];exact rel.val k)
  obtain⟨p,hp,hp2⟩:=Option.map_eq_some_iff.mp hw
  refine wpAny_getItem_heap (tupleKind_room_in1 hu) (aOg I.hok eb) dd hp ?_
  rw[hp2]
  exact h w' _ (I.tok _) rw'
theorem aIi {h':Heap}{t':Nat}{ob:HO}(I:Inv X pins σ H s)(mu:Mut (H a))(hs:Heap.SameBut a s.heap h')(he: ∃q,h'.get? a=some q)(new:lJ X.prog X.w (upd H a ob) h' a ob):
  Inv X pins σ (upd H a ob) {s with heap:=h',toks:=t'}:=
 I.write (x:=a) (e:=a) mu (.inl rfl) (fun b q hb z=>(hs.2 b hb).trans z) he new
theorem aUg {P:Program}{w:World}{H':Hp}{h':Heap}{kvs:List (Key×V)}{vs:List (Key×Value)}(z:kvs.length<=sizeLine)(hd:(a==sysModules)=false)(rel:KV kvs vs)(dd:h'.DictOf (lD P w) a vs):
  lJ P w H' h' a (.dK kvs):=⟨z,hd,vs,rel,dd⟩
theorem aS5 {H':Hp}{Q:Unit->Shared->Prop}(hu:A.units+1<cLine)(I:Inv X pins σ H s)(g:aIh H a y v H')(ry:RelV y u)(rv:RelV v r)(h: ∀s',Inv X pins σ H' s'->Q () s'):
  wpAny (model X.prog X.w) A (setItem (.ref a) u r) Q E s:=by
 rcases g with ⟨kvs,k,e,ey,l,eH⟩|⟨kvs,k,b,e,ey,eb,l,eH⟩
 .subst ey eH
  obtain⟨z,hd,vs,rel,dd⟩:=aZa I.hok e
  have hz:vs.length<=sizeLine:=by rw[<- rel.length];exact z
  have hl:(putK kvs k v).length<=sizeLine:=by have:=MN kvs k v;lia
  refine wpAny_setItem_pairs (hsz:=hz) (aQg ry) dd fun h' dd' hs=>h _ ?_
  have he: ∃q,h'.get? a=some q:=let ⟨q,_,_,hq,_⟩:=dd';⟨q,hq⟩
  exact aIi I (by rw[e];exact True.intro) hs he (aUg hl hd (rel.put k rv) dd')
 .subst ey eH
  cases (show u=Value.ref b from ry)
  obtain⟨z,hd,xs,rel,dd⟩:=bCw I.hok e
  have hz:xs.length<=sizeLine:=by rw[<- Paired.length rel];exact z
  have hl:(putK kvs k v).length<=sizeLine:=by have:=MN kvs k v;lia
  refine wpAny_setItem_heap (hsz:=hz) (tupleKind_room_in1 hu) (aOg I.hok eb) dd fun h' dd' hs=>h _ ?_
  obtain⟨q,es,ep,hq,h2,h3,h4,_,h5⟩:=dd'
  refine aIi I (by rw[e];exact True.intro) hs ⟨q,hq⟩ ⟨hl,hd,_,(rel.put k eb rv).keeps fun c ys ec=>?_,q,es,ep,hq,h2,h3,h4,h5⟩
  rw[aM (jO ec e (fun z=>nomatch z))]
  exact ec
end
noncomputable def aX3 (i:Expr):Prop:= ∀ov iv,subscripted i false ov iv=operate [ov,iv] (getItem ov iv)
theorem aIj {prog:Program}{w:World}{A:Around}{E:Value->Shared->Prop}{s:Shared}{env:Env}{value slice:Expr}{pos:Pos}{T id:String}{Q:Value->Shared->Prop}
  (hl:typeLookup (.type T) "__getitem__"=pure (some (.builtin id))) (hs:aX3 slice)
  (h:wpAny (model prog w) A (eval value env) (fun o s₁=>wpAny (model prog w) A (eval slice env) (fun i s₂=>s₂.TypeIs o T/\wpAny (model prog w) A (getItem o i) Q E s₂) E s₁) E s):
  wpAny (model prog w) A (eval (.Subscript value slice pos) env) Q E s:=by
 refine Subscript_ (wpAny_mono h (fun o s₁ h₁=>wpAny_mono h₁ (fun i s₂ h₂=>?_) fun _ _ x=>x) fun _ _ x=>x)
 obtain⟨hT,h₂⟩:=h₂
 unfold subscriptTail
 refine wpAny_bind ?_
 rw[getitemInPython_of_ne hT.not_modules]
 refine wpAny_bind (wpAny_specialOf hT hl ?_)
 have fin:wpAny (model prog w) A (subscripted slice false o i) (fun r s₃=>wpAny (model prog w) A (letTemporaryGo value o r >>= fun _=>pure r) Q E s₃) E s₂:=by
  rw[hs o i]
  exact wpAny_operating (wpAny_mono h₂ (fun r s₃ h₃=>wpAny_bind (wpAny_letTemporaryGo (wpAny_pure h₃))) fun _ _ x=>x)
 first
  |exact wpAny_pure (wpAny_bind fin)
  |exact wpAny_bind (wpAny_pure (wpAny_bind fin))
  |exact wpAny_bind fin
theorem aLp {X:Cx}{pins:List (Addr×Obj)}{σ:St}{H:Hp}{s:Shared}{a:Addr}{y:V}{o:Option V}(I:Inv X pins σ H s)(g:aIg H a y o):s.TypeIs (.ref a) "dict":=by
 rcases g with ⟨kvs,k,e,_,_⟩|⟨kvs,k,b,e,_,_,_⟩
 .obtain⟨_,_,vs,_,dd⟩:=aUe I.hok e
  exact dd.typeIs
 .obtain⟨_,_,xs,_,dd⟩:=aUf I.hok e
  exact dd.typeIs
noncomputable def aZb (td ty:TE):TE:=fun σ H Q=>td σ H fun x H1=>ty σ H1 fun y H2=> ∃a v,x= .ref a/\aIg H2 a y (some v)/\Q v H2
noncomputable def aZc (td ty tv:TE):TS:=fun D σ H=>tv σ H fun v H1=>td σ H1 fun x H2=>ty σ H2 fun y H3=> ∃a H4,x= .ref a/\aIh H3 a y v H4/\D.nx σ H4
section
variable{X:Cx}{o i e value:Expr}{pos pos' tpos:Pos}{td ty tv:TE}
theorem aZ (hu:X.A.units+1<cLine)(ho:PE X o td)(hi:PE X i ty)(hs:aX3 i):PE X (.Subscript o i pos) (aZb td ty):=by
 intro pins s σ H Q I h
 refine aIj PySem.F.slot_dict_getitem.lookup hs (thn (ho pins s σ H _ I h) fun u s1⟨x,H1,I1,rx,q1⟩=>thn (hi pins s1 σ H1 _ I1 q1) fun iv s2⟨y,H2,I2,ry,a,v,ex,g,q2⟩=>?_)
 subst ex
 obtain rfl:u=Value.ref a:=rx
 exact⟨aLp I2 g,aS4 hu I2 g ry fun w' s3 I3 rw'=>⟨v,H2,I3,rw',q2⟩⟩
theorem aBz (hu:X.A.units+1<cLine)(ho:PE X o td)(hi:PE X i ty)(hv:PE X value tv)(hs:swapsWith value (some (.Subscript o i pos')) pos.line X.env=pure false):
  PS X (.Assign [.Subscript o i pos'] value pos) (aZc td ty tv):=by
 intro pins s σ H D I h
 refine wpAny_Assign_Subscript (thn (hv pins s σ H _ I h) fun r s1⟨v,H1,I1,rv,q1⟩=>thn (ho pins s1 σ H1 _ I1 q1) fun u s2⟨x,H2,I2,rx,q2⟩=>thn (hi pins s2 σ H2 _ I2 q2) fun iv s3⟨y,H3,I3,ry,a,H4,ex,g,q3⟩=>?_) hs
 subst ex
 obtain rfl:u=Value.ref a:=rx
 exact aS5 hu I3 g ry rv fun s4 I4=>⟨σ,H4,I4,q3⟩
end
theorem aUh {P:Program}{w:World}{H:Hp}(h:Heap)(hb:sysModules<h.objs.size):lJ P w H (h.push {cls:= .type "dict",data:= .dict #[]}) h.objs.size (.dK []):=
 ⟨Nat.zero_le _,beq_eq_false_iff_ne.mpr (Ne.symm (Nat.ne_of_lt hb)),[],.nil,Heap.DictOf.new h⟩
noncomputable def U7:List (TE×TE)->St->Hp->(List (V×V)->Hp->Prop)->Prop
 |[],_,H,Q=>Q [] H
 |(tk,tv)::r,σ,H,Q=>tk σ H fun x H1=>tv σ H1 fun y H2=>U7 r σ H2 fun ps H3=>Q ((x,y)::ps) H3
noncomputable abbrev VV:List (V×V)->List (Value×Value)->Prop:=Paired fun p q=>RelV p.1 q.1/\RelV p.2 q.2
noncomputable def PPs (X:Cx)(pos:Pos)(keys:List (Option Expr))(values:List Expr)(trs:List (TE×TE)):Prop:=
 ∀(pins:List (Addr×Obj))(s:Shared)(σ:St)(H:Hp)(Q:List (V×V)->Hp->Prop),Inv X pins σ H s->U7 trs σ H Q->
  wpAny (model X.prog X.w) X.A (evalPairs (pairTrees keys values X.env pos)) (fun vs s'=> ∃ps H',Inv X pins σ H' s'/\VV ps vs/\Q ps H') X.xe s
theorem aIk {X:Cx}{pos:Pos}:PPs X pos [] [] []:=fun pins s σ H Q I h=>pairTrees_nil_walk ⟨[],H,I,.nil,h⟩
theorem mO {X:Cx}{pos:Pos}{k v:Expr}{ks:List (Option Expr)}{vs:List Expr}{tk tv:TE}{trs:List (TE×TE)}(hk:PE X k tk)(hv:PE X v tv)(hr:PPs X pos ks vs trs):
  PPs X pos (some k::ks) (v::vs) ((tk,tv)::trs):=fun pins s σ H Q I h=>
 pairTrees_cons_walk (thn (hk pins s σ H _ I h) fun u s1⟨x,H1,I1,rx,q1⟩=>thn (hv pins s1 σ H1 _ I1 q1) fun w2 s2⟨y,H2,I2,ry,q2⟩=>
  thn (hr pins s2 σ H2 _ I2 q2) fun ws s3⟨ps,H3,I3,rel,q3⟩=>⟨(x,y)::ps,H3,I3,.cons ⟨rx,ry⟩ rel,q3⟩)
noncomputable def zV (kvs more:List (Key×V)):List (Key×V):=more.foldl (fun acc kv=>putK acc kv.1 kv.2) kvs
theorem KV.merge: ∀{more:List (Key×V)}{rs:List (Key×Value)}{kvs:List (Key×V)}{vs:List (Key×Value)},KV more rs->KV kvs vs->KV (zV kvs more) (merged vs rs):=by
 intro more rs kvs vs r
 unfold KV at r
 induction r generalizing kvs vs with
 |nil=>intro q;exact q
 | @cons p q ps qs h t ih=>
  intro r0
  have e:KV (putK kvs p.1 p.2) (stored vs q.1 q.2):=by
   have:=r0.put p.1 h.2
   rw[<- h.1];exact this
  exact ih e
theorem T4: ∀(more kvs:List (Key×V)),(zV kvs more).length<=kvs.length+more.length
 |[],kvs=>by show kvs.length<=kvs.length+0;lia
 |p::r,kvs=>by
  have h1:=T4 r (putK kvs p.1 p.2)
  have h2:=MN kvs p.1 p.2
  show (zV (putK kvs p.1 p.2) r).length<=_
  rw[List.length_cons];lia
theorem aCu {P:Program}{w:World}: ∀{kvs:List (Key×V)}{ws:List (Value×Value)},VV (kvs.map fun kv=>(kV kv.1,kv.2)) ws-> ∃rs,Carries (lD P w) ws rs/\KV kvs rs
 |[],_,r=>by rw[List.map_nil] at r;cases r;exact⟨[],True.intro,.nil⟩
 |p::kvs,_,r=>by
  rw[List.map_cons] at r
  cases r with
  | @cons a b as bs h t=>
   obtain⟨rs,c,q⟩:=aCu (P:=P) (w:=w) t
   obtain⟨b1,b2⟩:=b
   exact⟨(p.1,b2)::rs,⟨aQg h.1,rfl,c⟩,.cons ⟨rfl,h.2⟩ q⟩
noncomputable def aUi (trs:List (TE×TE)):TE:=fun σ H Q=> ∀p,H p=none->U7 trs σ (upd H p (.dK [])) fun ps H2=>H2 p=some (.dK [])/\ ∃kvs:List (Key×V),ps=kvs.map (fun kv=>(kV kv.1,kv.2))/\kvs.length<=15/\Q (.ref p) (upd H2 p (.dK (zV [] kvs)))
theorem aQh {X:Cx}{pos:Pos}{keys:List (Option Expr)}{values:List Expr}{trs:List (TE×TE)}(h:PPs X pos keys values trs)(hall:keys.all (·.isSome)=true)(hl:keys.length=values.length)(h0:keys≠[])
  (h15:keys.length<=15):PE X (.Dict keys values pos) (aUi trs):=by
 intro pins s σ H Q I q
 have hn:=I.hok.fresh (Nat.le_refl s.heap.objs.size)
 have I1:=I.laid (a:=s.heap.objs.size) (o:= .dK []) (h':=s.heap.push {cls:= .type "dict",data:= .dict #[]}) (t':=s.toks) (fun _ _ q=>Heap.get?_push_of_some _ q) (Nat.le_refl _) (aUh s.heap I.big)
 refine wpAny_Dict_walk (knd:=lD X.prog X.w) hall hl h0 h15 (thn (h pins _ σ _ _ I1 (q _ hn)) fun ws s2⟨ps,H2,I2,rel,e,kvs,ep,lk,q2⟩=>?_)
 subst ep
 obtain⟨rs,c,rk⟩:=aCu (P:=X.prog) (w:=X.w) rel
 obtain⟨z,hd,vs0,r0,dd⟩:=aZa I2.hok e
 cases r0
 refine⟨rs,c,dd,fun h' dd' hs=>⟨.ref s.heap.objs.size,_,?_,rfl,q2⟩⟩
 have hz:(zV [] kvs).length<=sizeLine:=by
  have h1:=T4 kvs []
  rw[List.length_nil] at h1
  rw[sizeLine_eq];lia
 have he: ∃q,h'.get? s.heap.objs.size=some q:=let ⟨q,_,_,hq,_⟩:=dd';⟨q,hq⟩
 exact aIi I2 (by rw[e];exact True.intro) hs he (aUg hz hd (rk.merge .nil) dd')
structure M1 (X:Cx)(o:Expr)(m:Str)(apos:Pos)(e:Expr)(cpos:Pos):Prop where
 base:attributeBase o m X.env (eval o X.env)=eval o X.env
 few:((backTo cpos (starEach [e] X.env)).all (fun x=> !x.1)&&(backToKw cpos (keywordEach [] X.env)).all (fun x=>x.1.isSome)
  &&decide (([e]:List Expr).length+([]:List Keyword).length+(if([]:List Keyword).isEmpty then 0 else 1)<30))=true
 line:(apos.endLine==cpos.line)=true
 trees:backTo cpos (starEach [e] X.env)=[(false,eval e X.env)]
structure M2 (X:Cx)(o:Expr)(m:Str)(apos:Pos)(e f:Expr)(cpos:Pos):Prop where
 base:attributeBase o m X.env (eval o X.env)=eval o X.env
 few:((backTo cpos (starEach [e,f] X.env)).all (fun x=> !x.1)&&(backToKw cpos (keywordEach [] X.env)).all (fun x=>x.1.isSome)
  &&decide (([e,f]:List Expr).length+([]:List Keyword).length+(if([]:List Keyword).isEmpty then 0 else 1)<30))=true
 line:(apos.endLine==cpos.line)=true
 trees:backTo cpos (starEach [e,f] X.env)=[(false,eval e X.env),(false,eval f X.env)]
end L2
namespace L2
open PySem PySem.Spec PyProof.Rows
section
variable{X:Cx}{pins:List (Addr×Obj)}{σ:St}{H:Hp}{s:Shared}{h':Heap}
theorem Inv.aS6 {t':Nat}{ch:List Addr}{T:Addr}{ob:HO}(I:Inv X pins σ H s)(k: ∀b o,b∉ch->s.heap.get? b=some o->h'.get? b=some o)(hf: ∀b∈ch,aCi X pins H b)(hT:s.heap.objs.size<=T)
  (new:lJ X.prog X.w (upd H T ob) h' T ob):Inv X pins σ (upd H T ob) {s with heap:=h',toks:=t'}:=by
 have hn:H T=none:=I.hok.fresh hT
 have nit: ∀b u,H b=some u->b∉ch:=fun b u e z=>by
  have q:=(hf b z).1
  rw[q] at e;cases e
 refine I.step (g':=s.gens) (d':=s.drawn) (ch:=ch) (fun b hb=>⟨(hf b hb).2.2.2.1,(hf b hb).2.1,(hf b hb).2.2.2.2.1,(hf b hb).2.2.2.2.2⟩) (fun b o _ _ hc e _=>k b o hc e) (fun b o _ _ hc e _=>⟨o.slots,k b o hc e⟩)
  (fun b o _ e n=>?_) (fun b o hc e=>⟨o,k b o hc e⟩) (fun b xs e=>?_) (fun b o u e=>?_) (fun b ps e=>⟨#[],?_⟩) (fun m hm=>?_) (fun b u e=>?_) I.bare
 .rw[aM (Nat.ne_of_lt (Nat.lt_of_lt_of_le (Heap.lt_size e) hT))];exact n
 .rw[aM (aX e hn)];exact e
 .rw[aM (aX e hn)];exact e
 .rw[aM (aX e hn),e];simp
 .obtain⟨o,es,ep,ho,r⟩:=hm
  exact⟨o,es,ep,k _ o (fun z=>(hf _ z).2.1 rfl) ho,r⟩
 .by_cases hb:b=T
  .subst hb
   rw[aH] at e
   cases e
   exact new
  .rw[aM hb] at e
   refine(I.hok b u e).stay (fun c v hc q=>k c v ?_ q) (fun c q=>by rw[aM (aX q hn)];exact q) fun c xs q=>by rw[aM (aX q hn)];exact q
   rcases hc with z|z
   .rw[z];exact nit b u e
   .exact nit c _ z
theorem Inv.lock {d:Addr}{u:HO}(I:Inv X pins σ H s)(h:H d=some u)(mu:Mut (some u)): ∃od,Inv X pins σ (upd H d (.frz od u)) s:=by
 have x:=I.hok d u h
 have ex: ∃od,s.heap.get? d=some od:=by
  cases u with
  |lst xs=>obtain⟨_,_,_,_,e⟩:=x;exact⟨_,e⟩
  |dK kvs=>obtain⟨_,_,_,_,o,_,_,e,_⟩:=x;exact⟨o,e⟩
  |dT kvs=>obtain⟨_,_,_,_,o,_,_,e,_⟩:=x;exact⟨o,e⟩
  |set S n=>obtain⟨o,_,_,_,e,_⟩:=x;exact⟨o,e⟩
  |ins C dx fs=>obtain⟨_,_,_,e,_⟩:=x;exact⟨_,e⟩
  |ext φ=>obtain⟨_,⟨_,e⟩,_⟩:=x;exact⟨_,e⟩
  |_=>exact False.elim mu
 obtain⟨od,e⟩:=ex
 have new:lJ X.prog X.w (upd H d (.frz od u)) s.heap d (.frz od u):=by
  refine⟨e,x.stay (fun b v _ q=>q) (fun b q=>?_) fun b xs q=>?_⟩
  .rw[aM (fun z=>by rw[z,h] at q;cases q;exact mu)];exact q
  .rw[aM (fun z=>by rw[z,h] at q;cases q;exact mu)];exact q
 exact⟨od,I.write (x:=d) (e:=d) (t':=s.toks) (h':=s.heap) (by rw[h];exact mu) (.inl rfl) (fun b v _ q=>q) ⟨od,e⟩ new⟩
theorem Inv.bCx {d:Addr}{u:HO}(I:Inv X pins σ H s)(h:H d=some u)(mu:Mut (some u)): ∀o' u',X.H_0 d≠some (.frz o' u'):=fun o' u' e=>by
 have q:=I.base.W8 d o' u' e
 rw[h] at q
 cases q
 exact mu
theorem Inv.unlock {d:Addr}{od:Obj}{u:HO}(I:Inv X pins σ H s)(h:H d=some (.frz od u))(hn: ∀o' u',X.H_0 d≠some (.frz o' u')):Inv X pins σ (upd H d u) s:=by
 have neH: ∀b o,H b=some o->(∀o' u',o≠ .frz o' u')->b≠d:=fun b o e hne z=>by
  rw[z,h] at e
  cases e
  exact hne _ _ rfl
 have neN: ∀b,H b=none->b≠d:=fun b e z=>by rw[z,h] at e;cases e
 refine⟨I.ok,I.os,I.bare,⟨I.base.keep,I.base.slot,fun b o e n hx=>?_,I.base.there,fun b xs e=>?_,fun b o x e=>?_,fun b ps e=>?_⟩,I.loc,I.cell,?_,fun x c e=>?_,fun p hp=>?_,fun b o e=>?_,I.len⟩
 .rw[aM (neN b (I.base.free b o e n hx))];exact I.base.free b o e n hx
 .have q:=I.base.tups b xs e
  rw[aM (neH b _ q (fun _ _ z=>nomatch z))];exact q
 .have q:=I.base.W8 b o x e
  rw[aM (fun z=>by rw[z] at e;exact hn _ _ e)];exact q
 .obtain⟨m,q⟩:=I.base.aB9 b ps e
  exact⟨m,by rw[aM (neH b _ q (fun _ _ z=>nomatch z))];exact q⟩
 .rw[aM (neN _ I.free)];exact I.free
 .rw[aM (neN c (I.pC x c e))];exact I.pC x c e
 .obtain⟨e,n,r⟩:=I.pin p hp
  exact⟨e,by rw[aM (neN _ n)];exact n,r⟩
 .by_cases hb:b=d
  .rw[hb,aH] at e
   cases e
   rw[hb]
   obtain⟨_,x⟩:=I.hok d _ h
   exact x.stay (fun c v _ q=>q) (fun c q=>by rw[aM (neH c _ q (fun _ _ z=>nomatch z))];exact q) fun c xs q=>by rw[aM (neH c _ q (fun _ _ z=>nomatch z))];exact q
  .rw[aM hb] at e
   exact(I.hok b o e).stay (fun c v _ q=>q) (fun c q=>by rw[aM (neH c _ q (fun _ _ z=>nomatch z))];exact q) fun c xs q=>by rw[aM (neH c _ q (fun _ _ z=>nomatch z))];exact q
end
noncomputable def bAd (t:TE):TE:=fun σ H Q=> ∃d u,H d=some u/\Mut (some u)/\ ∀od,t σ (upd H d (.frz od u)) fun v H'=>H' d=some (.frz od u)/\Q v (upd H' d u)
section
variable{X:Cx}
theorem aX4 {e:Expr}{t:TE}(h:PE X e t):PE X e (bAd t):=by
 intro pins s σ H Q I hw
 obtain⟨d,u,hd,mu,hw⟩:=hw
 obtain⟨od,I1⟩:=I.lock hd mu
 refine thn (h pins s σ _ _ I1 (hw od)) fun v s1⟨x,H1,I2,r,e2,q⟩=>?_
 exact⟨x,_,I2.unlock e2 (I.bCx hd mu),r,q⟩
end
noncomputable def RgC (i j c:Int)(n:Nat):Prop:=c≠0/\c.natAbs<1073741824/\Builtin.Range.small i j c=true/\Builtin.Range.rangeSize i j c=n
noncomputable def Ite (K:PySem.W.Frag)(a:Addr):It:=
 ⟨fun i H=> ∃(xs:List V)(x:V),SqL K H a xs/\xs[i]?=some x,fun i H v H'=> ∃T x,v= .ref T/\H T=none/\H'=upd H T (.tup [.int (i:Nat),x])/\ ∀xs,SqL K H a xs->xs[i]?=some x,fun i H=> ∃xs:List V,SqL K H a xs/\xs.length<=i⟩
theorem aS7 {P:Program}{w:World}{K:PySem.W.Frag}{elts:List Expr}{kk:Nat}{tpos:Pos}(a e it:Addr):
  Turn P w K (.Tuple elts kk tpos) (Ite K a) [e,it] e (fun i h=>(∃old,IsEnum h e it ((i:Nat):Int) old)/\h.IsListIter it a i/\e≠it) where
 mem:=by simp
 obj:=fun i h st b hb=>by
  obtain⟨⟨old,he⟩,⟨o,ho,hc,hd⟩,_⟩:=st
  have e':b=e\/b=it:=by simpa using hb
  rcases e' with z|z
  .rw[z];exact⟨_,he,fun v q=>nomatch q⟩
  .rw[z];exact⟨o,ho,fun v q=>by rw[hd] at q;cases q⟩
 keep:=fun i h h' st k=>let ⟨⟨old,he⟩,hi,hne⟩:=st;⟨⟨old,k e (by simp) _ he⟩,hi.at fun o q=>k it (by simp) o q,hne⟩
 item:=by
  intro X hP hw hK hc i pins s σ H E I hf st hg
  subst hP hw hK
  obtain⟨⟨old,he⟩,hit,hne⟩:=st
  obtain⟨xs,x,hq,hx⟩:=hg
  obtain⟨its,rv,p,hz⟩:=I.list hq
  obtain⟨u,hu,ru⟩:=rv.get hx
  have hel:e<s.heap.objs.size:=Heap.lt_size he
  have hil:it<s.heap.objs.size:=by obtain⟨_,q,_⟩:=hit;exact Heap.lt_size q
  refine wpAny_pyNext_enum_item he hit p.isList (x:=u) (by simpa using hu) hne fun h' ho hit' hT hsz hk=>?_
  refine⟨_,rfl,wpAny_letOwnedTupleGo_enum (s:={s with heap:=h',toks:=s.toks+1}) ho fun h'' he' sb=>?_⟩
  have hT2:h''.get? s.heap.objs.size=some {cls:= .type "tuple",data:= .seq #[.int i s.toks,u]}:=(sb.2 _ (Nat.ne_of_gt hel)).trans hT
  have new:lJ X.prog X.w (upd H s.heap.objs.size (.tup [.int (i:Nat),x])) h'' s.heap.objs.size (.tup [.int (i:Nat),x]):=
   ⟨by show 2<=sizeLine;decide,[.int i s.toks,u],.cons ⟨_,rfl⟩ (.cons ru .nil),⟨_,hT2,rfl,_,rfl⟩⟩
  have I1:Inv X pins σ (upd H s.heap.objs.size (.tup [.int (i:Nat),x])) {s with heap:=h'',toks:=s.toks+1}:=
   I.aS6 (ch:=[e,it]) (fun b ob hb q=>(sb.2 b (fun z=>hb (by simp[z]))).trans (hk b ob (fun z=>hb (by simp[z])) (fun z=>hb (by simp[z])) q)) hf (Nat.le_refl _) new
  refine⟨.ref s.heap.objs.size,_,I1,rfl,⟨_,x,rfl,I.hok.fresh (Nat.le_refl _),rfl,fun ys hy=>by rw[I.aLc hy hq];exact hx⟩,⟨⟨u,?_⟩,hit'.at fun o q=>(sb.2 it (Ne.symm hne)).trans q,hne⟩,fun b hb=>?_⟩
  .have e1:((i+1:Nat):Int)=(i:Int)+1:=by lia
   rw[e1];exact he'
  .have hb':b<s.heap.objs.size:=by
    have e':b=e\/b=it:=by simpa using hb
    rcases e' with z|z
    .rw[z];exact hel
    .rw[z];exact hil
   rw[aM (Nat.ne_of_lt hb')]
   exact(hf b hb).1
 done:=by
  intro X hP hw hK hc i pins s σ H E I hf st hg
  subst hP hw hK
  obtain⟨⟨old,he⟩,hit,hne⟩:=st
  obtain⟨xs,hq,hx⟩:=hg
  obtain⟨its,rv,p,hz⟩:=I.list hq
  obtain⟨f0,f1,f2,f3,f4,f5⟩:=hf it (by simp)
  have hl:=rv.length
  exact wpAny_pyNext_enum_end (I.ok.hd hc) he hit p.isList (by simp;lia) fun h' eb=>⟨rfl,I.turned (t':=s.toks) (fun b o hb q=>eb b o hb q) f0 f1 f3 f4 f5⟩
 self:=fun A i s Q E st h=>let ⟨⟨_,he⟩,_⟩:=st;wpAny_pyIter_enum he h
noncomputable def aZd (K:PySem.W.Frag)(ta:TA):TI:=fun σ H R=>ta σ H fun vs H1=> ∃a xs,vs=[.ref a]/\SqL K H1 a xs/\R (Ite K a) H1
theorem aQi {X:Cx}{e:Expr}{ta:TA}{p pos tpos:Pos}{elts:List Expr}{kk:Nat}(hg:Gl X "enumerate")(hm:X.mg "enumerate"=none)(ha:PA X [e] ta)(hs:starEach [e] X.env=[(false,eval e X.env)]:=by rfl):
  PI X (.Tuple elts kk tpos) (.Call (.Name "enumerate" p) [e] [] pos) (aZd X.K ta):=by
 intro pins s σ H R I h
 refine Call_ (aI7 I hg hm boot_enumerate (PyProof.Rows.callWith_type1 (thn (ha pos pins s σ H _ I h) fun us s1⟨vs,H1,I1,r1,q1⟩=>?_) hs rfl))
 obtain⟨a,xs,ex,hq,q⟩:=q1
 subst ex
 cases r1 with
 |cons r rr=>
  cases rr
  cases r
  obtain⟨its,rv,p',hz⟩:=I1.list hq
  refine call_enumerate_list p'.isList fun h' he hit hsz hk=>wpAny_pyIter_enum he ?_
  have I2:Inv X pins σ H1 {s1 with heap:=h'}:=I1.kept (t':=s1.toks) hk
  refine⟨s1.heap.objs.size+1,[s1.heap.objs.size+1,s1.heap.objs.size],_,_,H1,rfl,I2,aS7 a (s1.heap.objs.size+1) s1.heap.objs.size,⟨⟨.none,he⟩,hit,Nat.succ_ne_self _⟩,fun b hb=>?_,q⟩
  have e':b=s1.heap.objs.size+1\/b=s1.heap.objs.size:=by simpa using hb
  have hle:s1.heap.objs.size<=b:=by
   rcases e' with z|z
   .rw[z];exact Nat.le_add_right _ _
   .rw[z];exact Nat.le_refl _
  exact I1.aTt hle (I1.hok.fresh hle)
end L2
section
namespace TL
open PySem PySem.Builtin PySem.Builtin.Str PySem.StrLaws
noncomputable abbrev tl (x:Str):List Nat:=x.cps.toList
noncomputable def pre (S l:List Nat):Bool:=l.take S.length==S
noncomputable def par (S:List Nat):List Nat->List Nat->Option (List Nat×List Nat)
 |_,[]=>none
 |acc,c::r=>if pre S (c::r)=true then some (acc,(c::r).drop S.length) else par S (acc++[c]) r
end TL
end
namespace L2
open PySem PySem.Spec PyProof.Rows
noncomputable def inClass (s:Stmt)(j:Nat):Stmt:=match s with
 | .ClassDef _ _ _ body _ _ _ _ _ _ _=>body.getD j (.Pass ⟨0,0,0,0⟩)
 |_=> .Pass ⟨0,0,0,0⟩
noncomputable def RG (s:Stmt):Arguments:=match s with
 | .FunctionDef _ a _ _ _ _ _ _ _ _=>a
 |_=>{posonlyargs:=[],args:=[],vararg:=none,kwonlyargs:=[],kw_defaults:=[],kwarg:=none,defaults:=[]}
noncomputable def gA (s:Stmt):List Stmt:=match s with
 | .FunctionDef _ _ b _ _ _ _ _ _ _=>b
 |_=>[]
noncomputable def aL (s:Stmt):Scope:=match s with
 | .FunctionDef _ _ _ _ _ _ sc _ _ _=>sc
 |_=>{kind:= .function,names:=[],isGenerator:=false,isCoroutine:=false}
noncomputable abbrev CX0:CXT:=fun _ _ _ _ _ _=>False
noncomputable abbrev E0:XK:=fun _ _ _=>False
theorem aQj {X:Cx}:Passes CX0 X E0:=fun _ _ _ _ _ _ _ h=>h.elim
structure Fun (K:PySem.W.Frag)(x qual:Str)(st:Stmt)(f:Addr)(fd:FuncData):Prop where
 ex: ∃(oc:Value)(od:Option Addr)(kV doc pm:Value)(an:Option Addr)(cdv ct:Value)(osl:Array (Option Value)),
  fd=PySem.W.fnOf x qual (RG st) (gA st) (aL st) .none kV doc pm an cdv ct/\K.lookup f=some ⟨oc,od,.func fd,osl⟩/\PySem.W.codeIn K cdv qual=true
 kp:PySem.W.keepIn K (.ref f)=true
section
variable{P:Program}{w:World}{K:PySem.W.Frag}{mg:Str->Option Value}{base:Heap}
theorem Fun.ok {x qual:Str}{st:Stmt}{f:Addr}{fd:FuncData}{N ps:List Str}{k:Nat}{sp:Sp}(F:Fun K x qual st f fd)(S:aY N ps (aL st))(len: ∀vs H Q E,sp vs H Q E->vs.length=ps.length)
  (hbody: ∀(cdv:Value)(A:Around)(outer:List Env)(s:Shared)(H:Hp)(vs:List V)(Q:VK)(E:XK),sV k (A.deeper (envOfC qual (aL st) s.heap.objs.size f cdv))->sp vs H Q E->
   ∃t,PSs (aFc CX0 P w K mg base N qual (aL st) f cdv A outer s H E).nox (gA st) t/\t {nx:=fun _ H'=>Q .non H',rt:=Q} (start N vs) H):bJ P w K mg base CX0 (k+1) f fd ps sp:=by
 obtain⟨oc,od,kV,doc,pm,an,cdv,ct,osl,rfl,lk,hcd⟩:=F.ex
 refine aZ6 lk hcd S len fun A outer s H vs Q E hr hsp=>?_
 obtain⟨t,h,q⟩:=hbody cdv A outer s H vs Q E hr hsp
 exact⟨t,h.nox,q⟩
theorem Fun.binds {x qual:Str}{st:Stmt}{f:Addr}{fd:FuncData}{ps:List Str}(F:Fun K x qual st f fd)
  (h: ∀(kV doc pm:Value)(an:Option Addr)(cdv ct:Value)(us:List Value),us.length=ps.length->bindArgs (PySem.W.fnOf x qual (RG st) (gA st) (aL st) .none kV doc pm an cdv ct) ⟨us,[]⟩=pure (ps.zip us)):Binds K fd ps []:=by
 obtain⟨oc,od,kV,doc,pm,an,cdv,ct,osl,rfl,lk,hcd⟩:=F.ex
 exact .all (h kV doc pm an cdv ct)
theorem bAe {x qual:Str}{st:Stmt}{f:Addr}{oc:Value}{od an:Option Addr}{osl:Array (Option Value)}{kV doc pm cdv ct:Value}(l:K.lookup f=some ⟨oc,od,.func (PySem.W.fnOf x qual (RG st) (gA st) (aL st) .none kV doc pm an cdv ct),osl⟩)
  (c:PySem.W.codeIn K cdv qual=true) (k:PySem.W.keepIn K (.ref f)=true):Fun K x qual st f (PySem.W.fnOf x qual (RG st) (gA st) (aL st) .none kV doc pm an cdv ct):=⟨⟨oc,od,kV,doc,pm,an,cdv,ct,osl,rfl,l,c⟩,k⟩
end
theorem bO {A:Around}{k:Nat}(hr:sV k A):A.units+1<cLine:=Nat.lt_of_le_of_lt (Nat.add_le_add_left (by decide:1<=64) _) hr.units
section
variable{X:Cx}
theorem pv (i:Nat){x:Str}{pos:Pos}(hN:X.N[i]?=some x:=by rfl)(hv:Vis X.env.scope x:=by first|exact Or.inl rfl|exact Or.inr (Or.inl rfl)|exact Or.inr (Or.inr rfl))(hd:(x==("__debug__":Str))=false:=by decide)
  (hcd:(x==("__classdict__":Str))=false:=by decide):PE X (.Name x pos) (bA3 i):=bA4 hN hv hd hcd
end
theorem eN {c A B:Prop}[Decidable c](h1:c->A)(h2: ¬c->B):if c then A else B:=by
 by_cases h:c
 .rw[if_pos h]
  exact h1 h
 .rw[if_neg h]
  exact h2 h
noncomputable def Same (H H':Hp):Prop:= ∀b o,H b=some o->H' b=some o
theorem Same.refl (H:Hp):Same H H:=fun _ _ h=>h
theorem Same.trans {H H1 H2:Hp}(a:Same H H1)(b:Same H1 H2):Same H H2:=fun c o h=>b c o (a c o h)
theorem Same.free {H H':Hp}(e:Same H H'){l:Addr}(h:H' l=Option.none):H l=Option.none:=by
 cases q:H l with
 |none=>rfl
 |some o=>
  rw[e l o q] at h
  cases h
end L2
end
section
section
namespace L2
open PySem PySem.Spec PyProof.Rows
open PySem.W (WData Codec OpenSpec Well WellAll ReadsW ReadsAllW)
mutual
inductive Dw (K:PySem.W.Frag)(H:Hp):V->WData->Prop
 |non:Dw K H .non .none
 |bl (b:Bool):Dw K H (.bl b) (.bool b)
 |int (i:Int):Dw K H (.int i) (.int i)
 |str (x:Str):Dw K H (.str x) (.str x)
 |byt (b:Array UInt8):Dw K H (.byt b) (.bytes b.toList)
 |lst {a:Addr} {xs:List V} {ds:List WData}:SqL K H a xs->DW K H xs ds->Dw K H (.ref a) (.list ds)
 |tup {a:Addr} {xs:List V} {ds:List WData}:SqT K H a xs->DW K H xs ds->Dw K H (.ref a) (.tuple ds)
inductive DW (K:PySem.W.Frag) (H:Hp):List V->List WData->Prop
 |nil:DW K H [] []
 |cons {v:V} {vs:List V} {d:WData} {ds:List WData}:Dw K H v d->DW K H vs ds->DW K H (v::vs) (d::ds)
end
theorem aQk {K:PySem.W.Frag}{H:Hp}: ∀ns:List Int,DW K H (ns.map V.int) (ns.map WData.int)
 |[]=> .nil
 |n::r=> .cons (.int n) (aQk r)
theorem aQl {K:PySem.W.Frag}{H:Hp}: ∀(ns:List Int)(xs:List V),DW K H xs (ns.map WData.int)->xs=ns.map V.int
 |[],xs,h=>by
  cases h
  rfl
 |n::r,xs,h=>by
  cases h with
  |cons h1 h2=>
   cases h1
   rw[aQl r _ h2] <;>rfl
section
variable{P:Program}{w:World}{K:PySem.W.Frag}{H:Hp}{h:Heap}{R:PySem.W.WRecords}{cl:Str->Option Addr}
theorem bAf {a:Addr}{xs:List V}(hok:HOk P w H h)(KX:K.In h)(q:SqL K H a xs): ∃(its:List Value)(o:Obj)(n:Nat),Vals xs its/\h.get? a=some o/\o.cls= .type "list"/\o.data= .seq its.toArray n:=by
 rcases q with q|⟨o,its,n,e,hc,_,hd,_,hv⟩
 .obtain⟨_,its,n,hv,e⟩:=(show lJ P w H h a (.lst xs) from q.ok hok)
  exact⟨its,_,n,hv,e,rfl,rfl⟩
 .exact⟨its.toList,o,n,hv,KX _ _ e,hc,by simp[hd]⟩
theorem bAg {a:Addr}{xs:List V}(hok:HOk P w H h)(KX:K.In h)(q:SqT K H a xs): ∃(its:List Value)(o:Obj)(n:Nat),Vals xs its/\h.get? a=some o/\o.cls= .type "tuple"/\o.data= .seq its.toArray n:=by
 rcases q with q|⟨o,its,n,e,hc,hd,_,hv⟩
 .obtain⟨_,its,hv,o,e,hc,n,hd⟩:=(show lJ P w H h a (.tup xs) from q.ok hok)
  exact⟨its,o,n,hv,e,hc,hd⟩
 .exact⟨its.toList,o,n,hv,KX _ _ e,hc,by simp[hd]⟩
mutual
theorem Dw.reads (hok:HOk P w H h)(KX:K.In h): ∀(d:WData)(v:V)(u:Value),Dw K H v d->RelV v u-> ∃as,ReadsW R cl h u d as
 | .none,_,_,x,r=>by
  cases x
  cases r
  exact⟨_,ReadsW.none⟩
 | .bool b,_,_,x,r=>by
  cases x
  cases r
  exact⟨_,ReadsW.bool b⟩
 | .int i,_,_,x,r=>by
  cases x
  obtain⟨t,rfl⟩:=r
  exact⟨_,ReadsW.int i t⟩
 | .str s,_,_,x,r=>by
  cases x
  obtain⟨t,rfl⟩:=r
  exact⟨_,ReadsW.str s t⟩
 | .bytes b,_,_,x,r=>by
  cases x
  obtain⟨t,rfl⟩:=r
  exact⟨_,ReadsW.bytes _ t⟩
 | .list ds,_,_,x,r=>by
  cases x with
  |lst hs ha=>
   cases r
   obtain⟨its,o,n,rv,ho,hc,hd⟩:=bAf hok KX hs
   obtain⟨as,hr⟩:=Dw.readsAll hok KX ds _ its ha rv
   exact⟨_,ReadsW.list ho hc hd hr⟩
 | .tuple ds,_,_,x,r=>by
  cases x with
  |tup hs ha=>
   cases r
   obtain⟨its,o,n,rv,ho,hc,hd⟩:=bAg hok KX hs
   obtain⟨as,hr⟩:=Dw.readsAll hok KX ds _ its ha rv
   exact⟨_,ReadsW.tuple ho hc hd hr⟩
 | .float _,_,_,x,_=>by cases x
 | .dict _,_,_,x,_=>by cases x
 | .bytearray _,_,_,x,_=>by cases x
 | .set _,_,_,x,_=>by cases x
 | .frozenset _,_,_,x,_=>by cases x
 | .obj _ _,_,_,x,_=>by cases x
theorem Dw.readsAll (hok:HOk P w H h) (KX:K.In h): ∀(ds:List WData)(vs:List V)(us:List Value),DW K H vs ds->Vals vs us-> ∃as,ReadsAllW R cl h us ds as
 |[],_,_,x,r=>by
  cases x
  cases r
  exact⟨_,ReadsAllW.nil⟩
 |d::ds,_,_,x,r=>by
  cases x with
  |cons h1 h2=>
   cases r with
   |cons r1 r2=>
    obtain⟨as,q1⟩:=Dw.reads hok KX d _ _ h1 r1
    obtain⟨bs,q2⟩:=Dw.readsAll hok KX ds _ _ h2 r2
    exact⟨_,ReadsAllW.cons q1 q2⟩
end
end
mutual
noncomputable def plW:WData->Bool
 | .none=>true
 | .bool _=>true
 | .int _=>true
 | .str _=>true
 | .bytes _=>true
 | .list xs=>aBa xs
 | .tuple xs=>aBa xs
 |_=>false
noncomputable def aBa:List WData->Bool
 |[]=>true
 |x::r=>plW x&&aBa r
end
theorem aLq {α:Type}{f:α->WData}(h: ∀a,plW (f a)=true): ∀l:List α,aBa (l.map f)=true
 |[]=>rfl
 |x::r=>by
  show (plW (f x)&&aBa (r.map f))=true
  rw[h x,aLq h r] <;>rfl
theorem MP: ∀(c:Codec)(a:c.denote),plW (c.enc a)=true
 | .unit,_=>rfl
 | .bool,_=>rfl
 | .int _ _,_=>rfl
 | .nat _ _,_=>rfl
 | .u8,_=>rfl
 | .bytes _ _,_=>rfl
 | .text _ _ _ _,_=>rfl
 | .list _ _ c,a=>aLq (fun x=>MP c x) a
 | .pair c d,a=>by
  show (plW (c.enc a.1)&&(plW (d.enc a.2)&&true))=true
  rw[MP c a.1,MP d a.2] <;>rfl
 | .triple c d e,a=>by
  show (plW (c.enc a.1)&&(plW (d.enc a.2.1)&&(plW (e.enc a.2.2)&&true)))=true
  rw[MP c a.1,MP d a.2.1,MP e a.2.2] <;>rfl
 | .option c,none=>rfl
 | .option c,some x=>MP c x
theorem aGy: ∀(cs:List Codec)(a:Codec.denoteAll cs),aBa (Codec.encAll cs a)=true
 |[],_=>rfl
 |c::cs,a=>by
  show (plW (c.enc a.1)&&aBa (Codec.encAll cs a.2))=true
  rw[MP c a.1,aGy cs a.2] <;>rfl
theorem U8: ∀{xs:List WData}{d:WData},d∈xs->d.weight<=WData.weightAll xs
 |[],d,h=>absurd h (by simp)
 |x::r,d,h=>by
  show d.weight<=x.weight+1+WData.weightAll r
  rcases List.mem_cons.mp h with e|m
  .rw[e]
   lia
  .have z:=U8 m
   lia
noncomputable def toV:Value->V
 | .none=> .non
 | .bool b=> .bl b
 | .int i _=> .int i
 | .str x _=> .str x
 | .bytes b _=> .byt b
 | .ref a=> .ref a
 |_=> .non
noncomputable def OkU (A:List Addr):Value->Prop
 | .none=>True
 | .bool _=>True
 | .int _ _=>True
 | .str _ _=>True
 | .bytes _ _=>True
 | .ref a=>a∈A
 |_=>False
theorem OkU.mono {A B:List Addr}(h: ∀a∈A,a∈B): ∀{u:Value},OkU A u->OkU B u:=fun{u} x=>by
 cases u with
 |ref a=>exact h a x
 |none=>trivial
 |bool b=>trivial
 |int i t=>trivial
 |str s t=>trivial
 |bytes b t=>trivial
 |_=>exact False.elim x
theorem aUj {A:List Addr}{u:Value}(x:OkU A u):RelV (toV u) u:=by
 cases u with
 |ref a=>rfl
 |none=>rfl
 |bool b=>rfl
 |int i t=>exact⟨t,rfl⟩
 |str s t=>exact⟨t,rfl⟩
 |bytes b t=>exact⟨t,rfl⟩
 |_=>exact False.elim x
theorem DX {A:List Addr}: ∀{vs:List Value},(∀u∈vs,OkU A u)->Vals (vs.map toV) vs
 |[],_=> .nil
 |u::r,h=> .cons (aUj (h u (List.mem_cons_self ..))) (DX fun x hx=>h x (List.mem_cons_of_mem _ hx))
noncomputable def KR (h:Heap)(A:List Addr)(a:Addr):Prop:= ∃vs:List Value,vs.length<=sizeLine/\(∀u∈vs,OkU A u)/\
 (h.get? a=some {cls:= .type "list",data:= .seq vs.toArray}\/h.get? a=some {cls:= .type "tuple",data:= .seq vs.toArray})
theorem KR.mono {h:Heap}{A B:List Addr}{a:Addr}(k: ∀a∈A,a∈B)(x:KR h A a):KR h B a:=by
 obtain⟨vs,h1,h2,h3⟩:=x
 exact⟨vs,h1,fun u hu=>(h2 u hu).mono k,h3⟩
theorem yO {P:Params}{h:Heap}: ∀{vs:List Value}{ds:List WData},WellAll P h vs ds->vs.length=ds.length
 |_,_,.nil=>rfl
 |_,_,.cons _ b=>by
  show _+1=_+1
  rw[yO b]
theorem aGz {P:Params}{h:Heap}{v:Value}{ds:List WData}(x:Well P h v (.list ds)): ∃(a:Addr)(vs:List Value),v= .ref a/\h.get? a=some {cls:= .type "list",data:= .seq vs.toArray}/\WellAll P h vs ds:=by
 cases x with
 |list ho hall=>exact⟨_,_,rfl,ho,hall⟩
theorem aCv {P:Params}{h:Heap}{v:Value}{ds:List WData}(x:Well P h v (.tuple ds)): ∃(a:Addr)(vs:List Value),v= .ref a/\h.get? a=some {cls:= .type "tuple",data:= .seq vs.toArray}/\WellAll P h vs ds:=by
 cases x with
 |tuple ho hall=>exact⟨_,_,rfl,ho,hall⟩
theorem aH0 {P:Params}{h:Heap}{us:List Value}{d:WData}{ds:List WData}(x:WellAll P h us (d::ds)): ∃(v:Value)(vs:List Value),us=v::vs/\Well P h v d/\WellAll P h vs ds:=by
 cases x with
 |cons a b=>exact⟨_,_,rfl,a,b⟩
theorem aQm {n:Nat}(h:n<=1048576):n<=sizeLine:=Nat.le_trans h (by decide)
section
variable{P:Params}{h:Heap}
mutual
theorem aUk: ∀(d:WData)(v:Value),Well P h v d->plW d=true->d.weight<=1048576-> ∃A:List Addr,OkU A v/\ ∀a∈A,KR h A a
 | .none,_,x,_,_=>by
  cases x
  exact⟨[],trivial,fun a m=>absurd m (by simp)⟩
 | .bool b,_,x,_,_=>by
  cases x
  exact⟨[],trivial,fun a m=>absurd m (by simp)⟩
 | .int i,_,x,_,_=>by
  cases x
  exact⟨[],trivial,fun a m=>absurd m (by simp)⟩
 | .str s,_,x,_,_=>by
  cases x
  exact⟨[],trivial,fun a m=>absurd m (by simp)⟩
 | .bytes b,_,x,_,_=>by
  cases x
  exact⟨[],trivial,fun a m=>absurd m (by simp)⟩
 | .list ds,_,x,p,z=>by
  obtain⟨a,vs,rfl,ho,hall⟩:=aGz x
  have z2:WData.weightAll ds<=1048576:=z
  obtain⟨A,h1,h2⟩:=WQ ds _ hall p fun d hd=>Nat.le_trans (U8 hd) z2
  have k: ∀b∈A,b∈a::A:=fun b hb=>List.mem_cons_of_mem _ hb
  refine⟨a::A,List.mem_cons_self ..,fun b hb=>?_⟩
  rcases List.mem_cons.mp hb with e|m
  .rw[e]
   exact⟨vs,aQm (by rw[yO hall];exact Nat.le_trans (PySem.W.length_le_weightAllW ds) z2),fun u hu=>(h1 u hu).mono k,.inl ho⟩
  .exact(h2 b m).mono k
 | .tuple ds,_,x,p,z=>by
  obtain⟨a,vs,rfl,ho,hall⟩:=aCv x
  have z2:WData.weightAll ds<=1048576:=z
  obtain⟨A,h1,h2⟩:=WQ ds _ hall p fun d hd=>Nat.le_trans (U8 hd) z2
  have k: ∀b∈A,b∈a::A:=fun b hb=>List.mem_cons_of_mem _ hb
  refine⟨a::A,List.mem_cons_self ..,fun b hb=>?_⟩
  rcases List.mem_cons.mp hb with e|m
  .rw[e]
   exact⟨vs,aQm (by rw[yO hall];exact Nat.le_trans (PySem.W.length_le_weightAllW ds) z2),fun u hu=>(h1 u hu).mono k,.inr ho⟩
  .exact(h2 b m).mono k
 | .float _,_,_,p,_=>Bool.noConfusion (show false=true from p)
 | .dict _,_,_,p,_=>Bool.noConfusion (show false=true from p)
 | .bytearray _,_,_,p,_=>Bool.noConfusion (show false=true from p)
 | .set _,_,_,p,_=>Bool.noConfusion (show false=true from p)
 | .frozenset _,_,_,p,_=>Bool.noConfusion (show false=true from p)
 | .obj _ _,_,_,p,_=>Bool.noConfusion (show false=true from p)
theorem WQ: ∀(ds:List WData)(vs:List Value),WellAll P h vs ds->aBa ds=true->(∀d∈ds,d.weight<=1048576)-> ∃A:List Addr,(∀u∈vs,OkU A u)/\ ∀a∈A,KR h A a
 |[],_,x,_,_=>by
  cases x
  exact⟨[],fun u m=>absurd m (by simp),fun a m=>absurd m (by simp)⟩
 |d::ds,_,x,p,z=>by
  obtain⟨v,vs,rfl,x1,x2⟩:=aH0 x
  have q:plW d=true/\aBa ds=true:=Bool.and_eq_true_iff.mp p
  obtain⟨A,a1,a2⟩:=aUk d v x1 q.1 (z d (List.mem_cons_self ..))
  obtain⟨B,b1,b2⟩:=WQ ds vs x2 q.2 fun e he=>z e (List.mem_cons_of_mem _ he)
  have kA: ∀b∈A,b∈A++B:=fun b hb=>List.mem_append.mpr (.inl hb)
  have kB: ∀b∈B,b∈A++B:=fun b hb=>List.mem_append.mpr (.inr hb)
  refine⟨A++B,fun u hu=>?_,fun b hb=>?_⟩
  .rcases List.mem_cons.mp hu with e|m
   .rw[e]
    exact a1.mono kA
   .exact(b1 u m).mono kB
  .rcases List.mem_append.mp hb with m|m
   .exact(a2 b m).mono kA
   .exact(b2 b m).mono kB
end
end
noncomputable def aX5 (o:Obj):Option HO:=match o.data with
 | .seq vs _=>if(o.cls==Value.type "list")=true then some (.frz o (.lst (vs.toList.map toV))) else some (.frz o (.tup (vs.toList.map toV)))
 |_=>none
noncomputable def HS (K:PySem.W.Frag)(h:Heap)(A:List Addr):Hp:=fun b=>if b∈A then(if(K.lookup b).isNone=true then(h.get? b).bind aX5 else none) else none
noncomputable def aQn (H:Hp):Prop:= ∀b,H b=none\/ ∃o u,H b=some (.frz o u)
theorem aLr (vs:List Value):aX5 {cls:= .type "list",data:= .seq vs.toArray}=some (.frz {cls:= .type "list",data:= .seq vs.toArray} (.lst (vs.map toV))):=by
 show (if(Value.type "list"==Value.type "list")=true then some (HO.frz {cls:= .type "list",data:= .seq vs.toArray} (.lst (vs.toArray.toList.map toV))) else some (HO.frz {cls:= .type "list",data:= .seq vs.toArray} (.tup (vs.toArray.toList.map toV))))=_
 rw[if_pos (beq_self_eq_true _)]
theorem aLs (vs:List Value):aX5 {cls:= .type "tuple",data:= .seq vs.toArray}=some (.frz {cls:= .type "tuple",data:= .seq vs.toArray} (.tup (vs.map toV))):=by
 show (if(Value.type "tuple"==Value.type "list")=true then some (HO.frz {cls:= .type "tuple",data:= .seq vs.toArray} (.lst (vs.toArray.toList.map toV))) else some (HO.frz {cls:= .type "tuple",data:= .seq vs.toArray} (.tup (vs.toArray.toList.map toV))))=_
 rw[if_neg (by decide)]
section
variable{P:Program}{w:World}{K:PySem.W.Frag}{h:Heap}{A:List Addr}
theorem aC0 {b:Addr}{o:Obj}(hb:b∈A)(hk:K.lookup b=none)(e:h.get? b=some o):HS K h A b=aX5 o:=by
 unfold HS
 rw[if_pos hb,hk,if_pos (show (none:Option Obj).isNone=true from rfl),e] <;>rfl
theorem aX6 {b:Addr}{u:HO}(q:HS K h A b=some u):b∈A/\K.lookup b=none:=by
 unfold HS at q
 by_cases hb:b∈A
 .rw[if_pos hb] at q
  cases hk:K.lookup b with
  |none=>exact⟨hb,rfl⟩
  |some o=>
   rw[hk,if_neg (by simp)] at q
   cases q
 .rw[if_neg hb] at q
  cases q
theorem aC1 (ar: ∀a∈A,KR h A a){b:Addr}{u:HO}(q:HS K h A b=some u):K.lookup b=none/\ ∃vs:List Value,vs.length<=sizeLine/\(∀u∈vs,OkU A u)/\
  ((h.get? b=some {cls:= .type "list",data:= .seq vs.toArray}/\u= .frz {cls:= .type "list",data:= .seq vs.toArray} (.lst (vs.map toV)))\/
   (h.get? b=some {cls:= .type "tuple",data:= .seq vs.toArray}/\u= .frz {cls:= .type "tuple",data:= .seq vs.toArray} (.tup (vs.map toV)))):=by
 obtain⟨hb,hk⟩:=aX6 q
 obtain⟨vs,h1,h2,h3⟩:=ar b hb
 refine⟨hk,vs,h1,h2,?_⟩
 rcases h3 with e|e
 .rw[aC0 hb hk e,aLr] at q
  exact .inl ⟨e,(Option.some.inj q).symm⟩
 .rw[aC0 hb hk e,aLs] at q
  exact .inr ⟨e,(Option.some.inj q).symm⟩
theorem aS8 (ar: ∀a∈A,KR h A a):aQn (HS K h A):=fun b=>by
 cases q:HS K h A b with
 |none=>exact .inl rfl
 |some u=>
  obtain⟨_,vs,_,_,⟨_,e⟩|⟨_,e⟩⟩:=aC1 ar q
  .exact .inr ⟨_,_,by rw[e]⟩
  .exact .inr ⟨_,_,by rw[e]⟩
theorem aX7 (ar: ∀a∈A,KR h A a):HOk P w (HS K h A) h:=fun b u q=>by
 obtain⟨_,vs,h1,h2,⟨e,rfl⟩|⟨e,rfl⟩⟩:=aC1 ar q
 .exact⟨e,by rw[List.length_map];exact h1,vs,_,DX h2,e⟩
 .exact⟨e,by rw[List.length_map];exact h1,vs,DX h2,_,e,rfl,_,rfl⟩
theorem aC2 {c c':Value}{vs us:List Value}(e:(some {cls:=c,data:= .seq vs.toArray}:Option Obj)=some {cls:=c',data:= .seq us.toArray}):c=c'/\vs=us:=by
 have e1:=Option.some.inj e
 have e2:c=c':=congrArg Obj.cls e1
 have e3:Data.seq vs.toArray=Data.seq us.toArray:=congrArg Obj.data e1
 injection e3 with e4
 refine⟨e2,?_⟩
 have e5:=congrArg Array.toList e4
 simpa using e5
theorem bEu (KX:K.In h)(ar: ∀a∈A,KR h A a){a:Addr}{vs:List Value}(ha:a∈A)(e:h.get? a=some {cls:= .type "list",data:= .seq vs.toArray}):(∀u∈vs,OkU A u)/\SqL K (HS K h A) a (vs.map toV):=by
 obtain⟨us,h1,h2,h3⟩:=ar a ha
 have hu:us=vs:=by
  rcases h3 with q|q
  .rw[e] at q
   exact(aC2 q).2.symm
  .rw[e] at q
   exact absurd (Value.type.inj (aC2 q).1) (by decide)
 subst hu
 refine⟨h2,?_⟩
 cases hk:K.lookup a with
 |none=>exact .inl (.inr ⟨_,by rw[aC0 ha hk e,aLr]⟩)
 |some o=>
  have e2:=KX a o hk
  rw[e] at e2
  obtain rfl:=Option.some.inj e2
  exact .inr ⟨_,us.toArray,_,hk,rfl,rfl,rfl,by rw[List.size_toArray];exact h1,by simpa using DX h2⟩
theorem bEv (KX:K.In h)(ar: ∀a∈A,KR h A a){a:Addr}{vs:List Value}(ha:a∈A)(e:h.get? a=some {cls:= .type "tuple",data:= .seq vs.toArray}):(∀u∈vs,OkU A u)/\SqT K (HS K h A) a (vs.map toV):=by
 obtain⟨us,h1,h2,h3⟩:=ar a ha
 have hu:us=vs:=by
  rcases h3 with q|q
  .rw[e] at q
   exact absurd (Value.type.inj (aC2 q).1) (by decide)
  .rw[e] at q
   exact(aC2 q).2.symm
 subst hu
 refine⟨h2,?_⟩
 cases hk:K.lookup a with
 |none=>exact .inl (.inr ⟨_,by rw[aC0 ha hk e,aLs]⟩)
 |some o=>
  have e2:=KX a o hk
  rw[e] at e2
  obtain rfl:=Option.some.inj e2
  exact .inr ⟨_,us.toArray,_,hk,rfl,rfl,by rw[List.size_toArray];exact h1,by simpa using DX h2⟩
mutual
theorem bAh {Pm:Params}(KX:K.In h)(ar: ∀a∈A,KR h A a): ∀(d:WData)(v:Value),Well Pm h v d->plW d=true->OkU A v->Dw K (HS K h A) (toV v) d
 | .none,_,x,_,_=>by
  cases x
  exact .non
 | .bool b,_,x,_,_=>by
  cases x
  exact .bl b
 | .int i,_,x,_,_=>by
  cases x
  exact .int i
 | .str s,_,x,_,_=>by
  cases x
  exact .str s
 | .bytes b,_,x,_,_=>by
  cases x
  have z:=Dw.byt (K:=K) (H:=HS K h A) b.toArray
  exact z
 | .list ds,_,x,p,hu=>by
  obtain⟨a,vs,rfl,ho,hall⟩:=aGz x
  obtain⟨h2,hs⟩:=bEu KX ar hu ho
  exact .lst hs (aIl KX ar ds _ hall p h2)
 | .tuple ds,_,x,p,hu=>by
  obtain⟨a,vs,rfl,ho,hall⟩:=aCv x
  obtain⟨h2,hs⟩:=bEv KX ar hu ho
  exact .tup hs (aIl KX ar ds _ hall p h2)
 | .float _,_,_,p,_=>Bool.noConfusion (show false=true from p)
 | .dict _,_,_,p,_=>Bool.noConfusion (show false=true from p)
 | .bytearray _,_,_,p,_=>Bool.noConfusion (show false=true from p)
 | .set _,_,_,p,_=>Bool.noConfusion (show false=true from p)
 | .frozenset _,_,_,p,_=>Bool.noConfusion (show false=true from p)
 | .obj _ _,_,_,p,_=>Bool.noConfusion (show false=true from p)
theorem aIl {Pm:Params} (KX:K.In h) (ar: ∀a∈A,KR h A a): ∀(ds:List WData)(vs:List Value),WellAll Pm h vs ds->aBa ds=true->(∀u∈vs,OkU A u)->DW K (HS K h A) (vs.map toV) ds
 |[],_,x,_,_=>by
  cases x
  exact .nil
 |d::ds,_,x,p,hu=>by
  obtain⟨v,vs,rfl,x1,x2⟩:=aH0 x
  have q:plW d=true/\aBa ds=true:=Bool.and_eq_true_iff.mp p
  exact .cons (bAh KX ar d v x1 q.1 (hu _ (List.mem_cons_self ..))) (aIl KX ar ds vs x2 q.2 fun u m=>hu u (List.mem_cons_of_mem _ m))
end
end
theorem aS9 {P:Program}{w:World}{K:PySem.W.Frag}{mg mb:Str->Option Value}{CX:CXT}{k:Nat}{fa:Addr}{fd:FuncData}{ps:List Str}{sp:Sp}{s₁:Shared}{vals:List Value}{ds:List WData}{R:PySem.W.WRecords}{cl:Str->Option Addr}{d0:WData}
  (KX:K.In s₁.heap) (hns:s₁.heap.Ns mainGlobals mg) (hb:s₁.heap.Ns builtinsNs mb) (hbb: ∀x:Str,x≠"__name__"->mb x=bootBuiltins x) (hlim:s₁.heap.NoLimit) (hg:s₁.gens= #[])
  (hwl:WellAll w.params s₁.heap vals ds) (hpl:aBa ds=true) (hwt: ∀d∈ds,d.weight<=1048576) (hr:sV k callerA)
  (F: ∀base:Heap,K.In base->base.Ns mainGlobals mg->bJ P w K mg base CX k fa fd ps sp) (hbind: ∀(s:Shared)(us:List Value),us.length=ps.length->BindsTo s fd ⟨us,[]⟩ (ps.zip us)) (hlen:ds.length=ps.length)
  (hsp: ∀(H:Hp)(xs:List V),aQn H->DW K H xs ds->sp xs H (fun v H'=>Dw K H' v d0) fun _ _ _=>False)
  (hCX: ∀H e s',CX [] H s₁ (fun _ _ _=>False) e s'->False):
  codeAny (model P w) callerA (.call (.ref fa) ⟨vals,[]⟩) (fun r s'=> ∃u as,r= .ok (.ret u)/\ReadsW R cl s'.heap u d0 as/\OldK s₁.heap s'.heap/\s'.os=s₁.os/\AllBare s'.gens) s₁:=by
 obtain⟨A,ho,ar⟩:=WQ ds vals hwl hpl hwt
 have hO:aQn (HS K s₁.heap A):=aS8 ar
 have hok:HOk P w (HS K s₁.heap A) s₁.heap:=aX7 ar
 have hS:=aIl KX ar ds vals hwl hpl ho
 have hV:=DX ho
 have hK: ∀b u,HS K s₁.heap A b=some u->K.lookup b=none:=fun b u q=>(aC1 ar q).1
 have noA: ∀{b:Addr}{o:Obj}{es:Array DictEntry}{ep:Nat},s₁.heap.get? b=some o->o.data= .dict es ep->HS K s₁.heap A b=none:=fun{b o es ep} e d=>by
  cases q:HS K s₁.heap A b with
  |none=>rfl
  |some u=>
   obtain⟨_,vs,_,_,⟨e2,_⟩|⟨e2,_⟩⟩:=aC1 ar q
   .rw[e2] at e
    cases e
    have d':Data.seq vs.toArray _=Data.dict es ep:=d
    cases d'
   .rw[e2] at e
    cases e
    have d':Data.seq vs.toArray _=Data.dict es ep:=d
    cases d'
 generalize HS K s₁.heap A=H at hO hok hS hK noA
 have base_of: ∀{b:Addr}{o:Obj},s₁.heap.get? b=some o->H b=none->(aI4 s₁.heap H).get? b=some o:=fun e n=>aTo e n
 have nsK: ∀{b:Addr}{m:Str->Option Value},s₁.heap.Ns b m->(aI4 s₁.heap H).Ns b m:=fun{b m}⟨o,es,ep,e,d,r⟩=>⟨o,es,ep,base_of e (noA e d),d,r⟩
 have nK: ∀b o,K.lookup b=some o->H b=none:=fun b o e=>by
  cases q:H b with
  |none=>rfl
  |some u=>
   rw[hK b u q] at e
   cases e
 have hKb:K.In (aI4 s₁.heap H):=fun b o e=>base_of (KX b o e) (nK b o e)
 have hM:Mod K mg (aI4 s₁.heap H):=⟨hKb,nsK hns,⟨mb,nsK hb,hbb⟩,let ⟨mc,h1,h2⟩:=hlim;⟨mc,nsK h1,h2⟩⟩
 have e0:aOc P w K mg (aI4 s₁.heap H) callerA [] s₁ H:=⟨rfl,hM,fun b o e=>aWp e,Nat.le_of_eq (aRt _ _),trivial,fun b hb=>absurd (show b∈([]:List Addr) from hb) (by simp),hok,.of_eq hg⟩
 have hl:vals.length=ps.length:=by rw[yO hwl];exact hlen
 refine codeAny_mono ((F _ hKb (nsK hns)).run callerA [] s₁ H ⟨vals,[]⟩ vals (vals.map toV) _ _ hr e0 (hbind s₁ vals hl) hV (hsp H _ hO hS)) fun r s' x=>?_
 cases r with
 |error e=>exact(hCX H e s' x).elim
 |ok fl=>
  cases fl with
  |next=>exact False.elim x
  |brk=>exact False.elim x
  |cont=>exact False.elim x
  |ret u=>
   obtain⟨v,H',os,bare,un,hok',r',q⟩:=x
   have kept: ∀b o,s₁.heap.get? b=some o->s'.heap.get? b=some o:=fun b o e=>by
    cases q2:H b with
    |none=>exact un.keep b o e q2 (by intro z;exact absurd (show b∈([]:List Addr) from z) (by simp)) (by simp)
    |some u2=>
     rcases hO b with z|⟨ob,u3,z⟩
     .rw[q2] at z
      cases z
     .have z2:=un.W8 b ob _ z
      obtain⟨e1,_⟩:=hok b _ z
      obtain⟨e2,_⟩:=hok' b _ z2
      rw[e] at e1
      cases e1
      exact e2
   have KX':K.In s'.heap:=fun b o e=>kept b o (KX b o e)
   obtain⟨as,hrd⟩:=Dw.reads (R:=R) (cl:=cl) hok' KX' d0 v u q r'
   exact⟨u,as,rfl,hrd,OldK.of_keep kept,os,bare⟩
theorem aCw {ds:List WData}(h:WData.layableAll ds=true): ∀d∈ds,d.weight<=1048576:=fun d hd=>
 (PySem.W.layableW_iff.mp (List.all_eq_true.mp h d hd)).2.2
theorem aCx: ∀(cs:List Codec)(a:Codec.denoteAll cs),(Codec.encAll cs a).length=cs.length
 |[],_=>rfl
 |c::cs,a=>by
  show (Codec.encAll cs a.2).length+1=cs.length+1
  rw[aCx cs a.2]
theorem aSa {r:OpenSpec}{k:Nat}{q:Program}{loose:List Str}{XP:(Str->Option Value)->Heap->Prop}{YP:World->Heap->Prop}{d:DefRec}{K:Params->PySem.W.Frag}{CX:World->CXT}{ps:List Str}{sp:World->Sp}
  (hwell:r.wellSaid=true) (hdf:d.params.defaults=[]) (hlen:r.args.length=ps.length) (hr:sV k callerA)
  (hY: ∀(w:World)(h:Heap),YP w h->(K w.params).In h)
  (F: ∀(w:World)(mg:Str->Option Value)(fa:Addr)(h:Heap),YP w h->(K w.params).In h->h.Ns mainGlobals mg->mg d.name=some (.ref fa)->
   ∃fd:FuncData,(∀(s:Shared)(us:List Value),us.length=ps.length->BindsTo s fd ⟨us,[]⟩ (ps.zip us))/\
    ∀base:Heap,(K w.params).In base->base.Ns mainGlobals mg->bJ r.prog w (K w.params) mg base (CX w) k fa fd ps (sp w))
  (hsp: ∀(w:World)(H:Hp)(xs:List V)(a:Codec.denoteAll r.args),aQn H->Codec.withinAll r.args a=true->Codec.app r.args r.asked a=true->DW (K w.params) H xs (Codec.encAll r.args a)->
   sp w xs H (fun v H'=>Dw (K w.params) H' v (r.ret.enc (Codec.app r.args r.f a))) fun _ _ _=>False)
  (hCX: ∀(w:World)(H:Hp)(s:Shared)(e:Value)(s':Shared),CX w [] H s (fun _ _ _=>False) e s'->False):
  PySem.W.WalkOS q loose XP YP r d [] (fun f vs=>PySem.call f vs):=by
 intro w s_0 s₁ mg mb G Y fa o pm cd doc dV kV ho hd hcd hD hmg hg args vals as hpre hlay hrd hwl hlo
 obtain⟨a,e1,e2⟩:=PySem.W.os_pre_some hpre
 obtain⟨e3,hwi⟩:=Codec.encAll_of_decAll r.args args a e1
 subst e3
 have KX:=hY w _ Y
 obtain⟨fd,hb,hF⟩:=F w mg fa _ Y KX G.T.g hmg
 refine PySem.W.enter_call (codeAny_mono (aS9 (R:=[]) (cl:=classAt s_0.heap) (d0:=r.ret.enc (Codec.app r.args r.f a)) KX G.T.g G.T.b G.T.builtins G.T.nolimit hg hwl (aGy _ _) (aCw hlay) hr hF hb (by rw[aCx];exact hlen)
  (fun H xs hO hS=>hsp w H xs a hO hwi e2 hS) fun H e s'=>hCX w H s₁ e s') fun r' s' hq=>?_)
 obtain⟨u,as',rfl,h1,h2,h3,h4⟩:=hq
 exact⟨.inl ⟨u,_,as',rfl,fun _=>rfl,h1,(OpenSpec.post_iff hwell hwi _ _).mpr rfl,fun z=>Bool.noConfusion (show false=true from z)⟩,h2,h3,h4⟩
end L2
end
section
namespace L2
open PySem PySem.Spec PyProof.Rows
theorem lJ.there {P:Program}{w:World}{H:Hp}{h:Heap}{a:Addr}{o:HO}(x:lJ P w H h a o): ∃ob,h.get? a=some ob:=by
 cases o with
 |lst xs=>obtain⟨_,_,_,_,e⟩:=x;exact⟨_,e⟩
 |tup xs=>obtain⟨_,_,_,ob,e,_⟩:=x;exact⟨ob,e⟩
 |dK kvs=>obtain⟨_,_,_,_,ob,_,_,e,_⟩:=x;exact⟨ob,e⟩
 |dT kvs=>obtain⟨_,_,_,_,ob,_,_,e,_⟩:=x;exact⟨ob,e⟩
 |set S n=>obtain⟨ob,_,_,_,e,_⟩:=x;exact⟨ob,e⟩
 |ins C dx fs=>obtain⟨_,_,_,e,_⟩:=x;exact⟨_,e⟩
 |own y=>obtain⟨ob,e⟩:=x;exact⟨ob,e⟩
 |xd fs=>obtain⟨_,⟨ob,_,_,e,_⟩,_⟩:=x;exact⟨ob,e⟩
 |rng lo hi=>obtain⟨_,_,_,e⟩:=x;exact⟨_,e⟩
 |frz ob u=>obtain⟨e,_⟩:=x;exact⟨ob,e⟩
 |tbl ps=>exact⟨_,x⟩
 |met f y=>exact⟨_,x⟩
 |ext φ=>obtain⟨_,e,_⟩:=x;exact e
theorem HOk.aIm {P:Program}{w:World}{H:Hp}{h:Heap}{a:Addr}(x:HOk P w H h)(e:h.get? a=none):H a=none:=by
 cases q:H a with
 |none=>rfl
 |some o=>
  obtain⟨ob,z⟩:=(x a o q).there
  rw[e] at z
  cases z
theorem HOk.bCy {P:Program}{w:World}{H:Hp}{h h':Heap}(x:HOk P w H h)(k: ∀b u o,H b=some o->h.get? b=some u->h'.get? b=some u):HOk P w H h':=fun a o e=>
 (x a o e).stay (fun b u hb q=>by
  rcases hb with z|z
  .subst z;exact k b u o e q
  .exact k b u _ z q) (fun _ q=>q) fun _ _ q=>q
section
variable{X:Cx}{pins:List (Addr×Obj)}{σ:List (Option V)}{H H':Hp}{s:Shared}{h':Heap}
theorem Inv.bCz {g':Array GenState}{t':Nat}{d':Drawn}{ch:List Addr}(I:Inv X pins σ H s)
  (hch: ∀b∈ch,(b∈X.ex\/X.s_0.heap.get? b=none)/\b≠X.env.locals/\(∀x c,X.env.cells.lookup x=some c->c≠b)/\ ∀p∈X.pn++pins,p.1≠b)
  (keep: ∀b o,b≠X.env.locals->b∉X.fs->b∉ch->s.heap.get? b=some o->H b=none->h'.get? b=some o)
  (slot: ∀b o,b≠X.env.locals->b∈X.fs->b∉ch->s.heap.get? b=some o->H b=none-> ∃sl,h'.get? b=some {o with slots:=sl}) (free: ∀b o,b∉ch->s.heap.get? b=some o->H b=none->H' b=none)
  (there: ∀b o,b∉ch->s.heap.get? b=some o-> ∃o',h'.get? b=some o')
  (tups: ∀b xs,H b=some (.tup xs)->H' b=some (.tup xs)) (W8: ∀b o u,H b=some (.frz o u)->H' b=some (.frz o u)) (aB9: ∀b ps,H b=some (.tbl ps)-> ∃more,H' b=some (.tbl (ps++more)))
  (ns: ∀m,s.heap.Ns X.env.locals m->h'.Ns X.env.locals m) (hok:HOk X.prog X.w H' h') (hg:AllBare g'):
  Inv X pins σ H' {s with heap:=h',gens:=g',drawn:=d',toks:=t'}:=by
 have neL: ∀b o,X.s_0.heap.get? b=some o->b≠X.env.locals:=fun b o e=>Nat.ne_of_lt (Nat.lt_of_lt_of_le (Heap.lt_size e) I.ok.above)
 have neC: ∀b o,X.s_0.heap.get? b=some o->b∉X.ex->b∉ch:=fun b o e hx hb=>by
  rcases(hch b hb).1 with z|z
  .exact hx z
  .rw[e] at z;cases z
 have cellK: ∀x c,X.env.cells.lookup x=some c-> ∀v,s.heap.IsCell c v->h'.IsCell c v:=fun x c e v⟨o,ho,hd⟩=>by
  have nch:c∉ch:=fun z=>(hch c z).2.2.1 x c e rfl
  by_cases hc:c∈X.fs
  .obtain⟨sl,q⟩:=slot c o (I.cne x c e) hc nch ho (I.pC x c e)
   exact⟨_,q,hd⟩
  .exact⟨o,keep c o (I.cne x c e) hc nch ho (I.pC x c e),hd⟩
 refine⟨I.ok,I.os,hg,⟨fun b o e n hb hx=>?_,fun b o e n hb hx=>?_,fun b o e n hx=>?_,fun b o e hx=>?_,fun b xs e=>tups b xs (I.base.tups b xs e),fun b o xs e=>W8 b o xs (I.base.W8 b o xs e),fun b ps e=>?_⟩,?_,fun x c e=>?_,?_,fun x c e=>?_,fun p hp=>?_,hok,I.len⟩
 .exact keep b o (neL b o e) hb (neC b o e hx) (I.base.keep b o e n hb hx) (I.base.free b o e n hx)
 .obtain⟨sl,e1⟩:=I.base.slot b o e n hb hx
  obtain⟨sl',e2⟩:=slot b _ (neL b o e) hb (neC b o e hx) e1 (I.base.free b o e n hx)
  exact⟨sl',e2⟩
 .obtain⟨o',e1⟩:=I.base.there b o e hx
  exact free b o' (neC b o e hx) e1 (I.base.free b o e n hx)
 .obtain⟨o',e1⟩:=I.base.there b o e hx
  exact there b o' (neC b o e hx) e1
 .obtain⟨m1,e1⟩:=I.base.aB9 b ps e
  obtain⟨m2,e2⟩:=aB9 b _ e1
  exact⟨m1++m2,by rw[e2,Array.append_assoc]⟩
 .obtain⟨m,hn,hl⟩:=I.loc
  refine⟨m,ns m hn,fun i x v e1 e2 e3=>?_⟩
  obtain⟨u,r,l⟩:=hl i x v e1 e2 e3
  refine⟨u,r,?_⟩
  rcases l with l|⟨k,c,e,z⟩
  .exact .inl l
  .exact .inr ⟨k,c,e,cellK x c e _ z⟩
 .obtain⟨v,z⟩:=I.cell x c e
  exact⟨v,cellK x c e v z⟩
 .obtain⟨m,⟨o,_,_,ho,_⟩,_⟩:=I.loc
  exact free _ o (fun z=>(hch _ z).2.1 rfl) ho I.free
 .obtain⟨v,o,ho,hd⟩:=I.cell x c e
  exact free c o (fun z=>(hch c z).2.2.1 x c e rfl) ho (I.pC x c e)
 .obtain⟨e,n,ne,nf,d⟩:=I.pin p hp
  have nch:p.1∉ch:=fun z=>(hch p.1 z).2.2.2 p hp rfl
  exact⟨keep p.1 p.2 ne nf nch e n,free p.1 p.2 nch e n,ne,nf,d⟩
end
noncomputable def ctxV (d:Option Addr):Value:=d.elim .none .ref
structure Fly (Nw:Addr->Prop)(H:Hp)(a:Addr)(cls:Value)(d:Option Addr)(h:Heap):Prop where
 ex: ∃oe vs,h.get? a=some oe/\oe.cls=cls/\oe.data= .fields vs/\vs[2]?=some (ctxV d)/\
  (vs[1]?=some .none\/ ∃T oT ts,vs[1]?=some (.ref T)/\T≠a/\h.get? T=some oT/\oT.data= .fields ts/\ts[3]?=some .none/\Nw T/\H T=none)
 new:Nw a
 fre:H a=none
theorem Fly.imp {N1 N2:Addr->Prop}{H:Hp}{a:Addr}{cls:Value}{d:Option Addr}{h:Heap}(x:Fly N1 H a cls d h)(k: ∀b,N1 b->N2 b):Fly N2 H a cls d h:=by
 obtain⟨oe,vs,e1,e2,e3,e4,e5⟩:=x.ex
 refine⟨⟨oe,vs,e1,e2,e3,e4,?_⟩,k _ x.new,x.fre⟩
 rcases e5 with z|⟨T,oT,ts,z1,z2,z3,z4,z5,z6,z7⟩
 .exact .inl z
 .exact .inr ⟨T,oT,ts,z1,z2,z3,z4,z5,k _ z6,z7⟩
noncomputable def bD0 (h:Heap)(b:Addr):Prop:=h.get? b=none
noncomputable def DY (X:Cx)(pins:List (Addr×Obj))(b:Addr):Prop:=X.s_0.heap.get? b=none/\ ∀p∈X.pn++pins,p.1≠b
noncomputable def CXE (P:Program)(w:World):CXT:=fun outer H s E e s'=> ∃a cls d H',e= .ref a/\s'.os=s.os/\AllBare s'.gens/\Un (frs outer) [] H H' s.heap s'.heap/\HOk P w H' s'.heap/\Fly (bD0 s.heap) H' a cls d s'.heap/\E cls d H'
noncomputable def XOk (X:Cx)(E:XK):Prop:= ∀(pins:List (Addr×Obj))(σ:St)(H:Hp)(s:Shared)(a:Addr)(cls:Value)(d:Option Addr),Inv X pins σ H s->Fly (DY X pins) H a cls d s.heap->E cls d H->X.xe (.ref a) s
theorem Inv.none0 {X:Cx}{pins:List (Addr×Obj)}{σ:St}{H:Hp}{s:Shared}(I:Inv X pins σ H s)(hex:X.ex=[]){b:Addr}(h:s.heap.get? b=none):DY X pins b:=by
 refine⟨?_,fun p hp z=>?_⟩
 .cases q:X.s_0.heap.get? b with
  |none=>rfl
  |some o=>
   obtain⟨o',e⟩:=I.base.there b o q (by rw[hex];simp)
   rw[h] at e
   cases e
 .have:=(I.pin p hp).1
  rw[z,h] at this
  cases this
theorem aQo {X:Cx}{E:XK}(x:XOk X E)(hex:X.ex=[]):Passes (CXE X.prog X.w) X E:=by
 rintro pins σ H s e s' I ⟨a,cls,d,H',rfl,os,bare,un,hok,fl,q⟩
 have I':=I.call' os un hok bare (ch:=[]) (fun b z=>nomatch z)
 exact x pins σ H' s' a cls d I' (fl.imp fun b z=>I.none0 hex z) q
theorem FunFrames.rebase {h b1 b2:Heap}: ∀{l:List Env},h.FunFrames b1 l->(∀L∈frs l,b2.get? L=none)->h.FunFrames b2 l
 |[],_,_=>trivial
 |env::r,⟨hk,⟨L,o,hf,_,ho,hd⟩,hr⟩,k=>by
  refine⟨hk,⟨L,o,hf,k L ?_,ho,hd⟩,FunFrames.rebase hr fun z hz=>k z ?_⟩
  .unfold frs;rw[List.filterMap_cons,hf];exact List.mem_cons_self
  .unfold frs;rw[List.filterMap_cons,hf];exact List.mem_cons_of_mem _ hz
structure Lft (base:Heap)(a:Addr)(cls c2 fl:Value)(h h':Heap):Prop where
 stays:base.StaysIn h'
 ex: ∃oe vs T oT ts,h'.get? a=some oe/\oe.cls=cls/\oe.data= .fields vs/\vs[2]?=some c2/\vs[1]?=some (.ref T)/\base.get? T=none/\T≠a/\h'.get? T=some oT/\oT.data= .fields ts/\ts[3]?=some fl
 slots:h.UpToSlots h'
section
variable{M:Model}{A:Around}{E:Value->Shared->Prop}{s:Shared}{base:Heap}{env:Env}{outer:List Env}{L e:Addr}{oe:Obj}{vs:Array Value}{c2:Value}{Q:Unit->Shared->Prop}
theorem aLt {head:Value}{hn:Bool}(hfr:A.frames=some (env::outer))(hl:s.heap.FunFrames base (env::outer))(hf:env.frame=some L)(he:s.heap.get? e=some oe)(hkb:base.StaysIn s.heap)(hen:base.get? e=none)
  (hd:oe.data= .fields vs) (h1:1<vs.size) (h2:vs[2]?=some c2) (k: ∀h',Lft base e oe.cls c2 (rawInt L) s.heap h'->Q () {s with heap:=h'}):
  wpAny M A (do let a <- frameOf env;let pl <- entryPlaceOf L hn;let b <- EntryCells.newEntry head a .none (rawInt L) .none pl;setField (.ref e) 1 b) Q E s:=by
 have ne:e∉(env::outer).filterMap (·.frame):=fun m=>by
  obtain⟨_,o,ho,nf⟩:=hl.mem m
  rw[he] at ho
  cases ho
  exact nf vs hd
 refine wpAny_bind (wpAny_frameOf_fun hfr hl hf fun g1 hg=>?_)
 refine wpAny_bind (wpAny_entryPlaceOf fun pl hpl=>?_)
 unfold EntryCells.newEntry newFields
 refine wpAny_bind (wpAny_newObj_type ?_ (hpl.sizeOk5 _ _ _ _ _))
 have q1:g1.get? e=some oe:=(hg.2.1 e ne).trans he
 have st:base.StaysIn g1:=fun b o hb=>(hg.2.1 b fun m=>by rw[(hl.mem m).1] at hb;cases hb).trans (hkb b o hb)
 generalize hT:({cls:= .type "traceback",dict:=none,data:= .fields ([head,.ref L,.none,rawInt L,.none]++(if pl.isEmpty then List.replicate 6 Value.none else pl)).toArray}:Obj)=oT
 have q2:=Heap.get?_push_of_some (h:=g1) oT q1
 refine wpAny_setField q2 hd h1 (k _ ?_)
 have nT:g1.objs.size≠e:=Nat.ne_of_gt (Heap.lt_size q1)
 have d3:=Obj.data_mapFields hd (·.setIfInBounds 1 (Value.ref g1.objs.size))
 have q3:=Heap.get?_update_self (Obj.mapFields (·.setIfInBounds 1 (Value.ref g1.objs.size))) q2 (Obj.isFreed_of_fields d3)
 have t3:=(Heap.get?_update_other (g1.push oT) (Obj.mapFields (·.setIfInBounds 1 (Value.ref g1.objs.size))) (Ne.symm nT)).trans (Heap.get?_push_size g1 (by rw[<- hT];rfl))
 have keep: ∀b o,b≠e->g1.get? b=some o->((g1.push oT).update e (Obj.mapFields (·.setIfInBounds 1 (Value.ref g1.objs.size)))).get? b=some o:=fun b o nb hb=>by
  rw[Heap.get?_update_other _ _ (Ne.symm nb)]
  exact Heap.get?_push_of_some oT hb
 refine⟨fun b o hb=>keep b o (fun z=>by rw[z,hen] at hb;cases hb) (st b o hb),?_,fun b o hb nf=>?_⟩
 .refine⟨_,_,g1.objs.size,oT,_,q3,Obj.cls_mapFields _ _,d3,by rw[Array.getElem?_setIfInBounds_ne (by decide)];exact h2,by simp[h1],st.fresh,nT,t3,by rw[<- hT],?_⟩
  first|(simp;done)|(rcases hpl with rfl|⟨_,_,_,_,_,_,_,rfl⟩ <;>simp)
 .obtain⟨sl,hs⟩:=hg.2.2 b o hb
  refine⟨sl,keep b _ (fun z=>?_) hs⟩
  rw[z,he] at hb
  cases hb
  exact nf vs hd
theorem aLu (hfr:A.frames=some (env::outer))(hl:s.heap.FunFrames base (env::outer))(hf:env.frame=some L)(he:s.heap.get? e=some oe)(hkb:base.StaysIn s.heap)(hen:base.get? e=none)
  (hd:oe.data= .fields vs) (h1:vs[1]?=some .none) (h2:vs[2]?=some c2) (k: ∀h',Lft base e oe.cls c2 (rawInt L) s.heap h'->Q () {s with heap:=h'}):wpAny M A (noteFrame (.ref e) env) Q E s:=by
 unfold noteFrame
 simp only[hf]
 refine wpAny_bind (wpAny_field he hd h1 ?_)
 rw[if_neg (by decide)]
 exact aLt hfr hl hf he hkb hen hd (Array.getElem?_eq_some_iff.mp h1).1 h2 k
theorem aOh {T:Addr}{oT:Obj}{ts:Array Value}(hfr:A.frames=some (env::outer))(hl:s.heap.FunFrames base (env::outer))(hf:env.frame=some L)(he:s.heap.get? e=some oe)(hkb:base.StaysIn s.heap)(hen:base.get? e=none)
  (hd:oe.data= .fields vs) (h1:vs[1]?=some (.ref T)) (h2:vs[2]?=some c2) (nT:base.get? T=none) (ne:T≠e) (eT:s.heap.get? T=some oT) (dT:oT.data= .fields ts) (h3:ts[3]?=some .none)
  (k: ∀h',Lft base e oe.cls c2 (rawInt L) s.heap h'->Q () {s with heap:=h'}):wpAny M A (noteFrame (.ref e) env) Q E s:=by
 unfold noteFrame
 simp only[hf]
 refine wpAny_bind (wpAny_field he hd h1 ?_)
 rw[if_pos (show (Value.ref T != Value.none)=true by simp)]
 refine wpAny_bind (wpAny_field eT dT h3 ?_)
 rw[if_neg (show ¬((Value.none==rawInt L)=true) by simp[rawInt])]
 refine wpAny_bind (wpAny_setField eT dT (Array.getElem?_eq_some_iff.mp h3).1 ?_)
 have oth: ∀b,b≠T->(s.heap.update T (Obj.mapFields (·.setIfInBounds 3 Value.none))).get? b=s.heap.get? b:=fun b hb=>Heap.get?_update_other _ _ (Ne.symm hb)
 have rcd: ∀b o,s.heap.get? b=some o->(∀vs,o.data≠ .fields vs)->b≠T:=fun b o hb nf z=>by
  rw[z,eT] at hb
  cases hb
  exact nf ts dT
 refine aLt (base:=base) hfr (hl.of_keeps fun b o hb nf=>⟨o,(oth b (rcd b o hb nf)).trans hb,rfl⟩) hf ((oth e (Ne.symm ne)).trans he) (fun b o hb=>(oth b fun z=>by rw[z,nT] at hb;cases hb).trans (hkb b o hb)) hen hd
  (Array.getElem?_eq_some_iff.mp h1).1 h2 fun h' x=>k h' ⟨x.stays,x.ex,fun b o hb nf=>x.slots b o ((oth b (rcd b o hb nf)).trans hb) nf⟩
theorem aUl {h:Heap}{fl cls:Value}(x:Lft base e cls c2 fl h s.heap)(k: ∀h',Lft base e cls c2 .none h h'->Q () {s with heap:=h'}):wpAny M A (setFlight (.ref e) none) Q E s:=by
 obtain⟨oe,vs,T,oT,ts,e1,e2,e3,e4,e5,e6,e7,e8,e9,e10⟩:=x.ex
 have sz:3<ts.size:=(Array.getElem?_eq_some_iff.mp e10).1
 unfold setFlight
 refine wpAny_bind (wpAny_field e1 e3 e5 ?_)
 rw[if_pos (show (Value.ref T != Value.none)=true by simp)]
 have oth: ∀b,b≠T->(s.heap.update T (Obj.mapFields (·.setIfInBounds 3 ((none:Option Addr).elim Value.none fun f=>rawInt f)))).get? b=s.heap.get? b:=fun b hb=>Heap.get?_update_other _ _ (Ne.symm hb)
 refine wpAny_setField e8 e9 sz (k _ ⟨fun b o hb=>(oth b fun z=>by rw[z,e6] at hb;cases hb).trans (x.stays b o hb),?_,fun b o hb nf=>?_⟩)
 .exact⟨oe,vs,T,_,_,(oth e (Ne.symm e7)).trans e1,e2,e3,e4,e5,e6,e7,Heap.get?_update_self _ e8 (Obj.isFreed_of_fields (Obj.data_mapFields e9 _)),Obj.data_mapFields e9 _,by simp[sz]⟩
 .obtain⟨sl,q⟩:=x.slots b o hb nf
  refine⟨sl,(oth b fun z=>?_).trans q⟩
  rw[z,e8] at q
  cases q
  exact nf ts e9
end
section
variable{X:Cx}{pins:List (Addr×Obj)}{σ:St}{H:Hp}{s:Shared}{a:Addr}{cls:Value}{d:Option Addr}
theorem Inv.noted {h':Heap}{rs:List Addr}(I:Inv X pins σ H s)(hex:X.ex=[])
  (hrs: ∀b∈rs,DY X pins b/\H b=none/\ ∃o vs,s.heap.get? b=some o/\o.data= .fields vs) (ha:a∈rs)
  (hL:Lft (TI.gone s.heap (rs++frs X.stack)) a cls (ctxV d) .none s.heap h'):
  Inv X pins σ H {s with heap:=h'}/\Fly (DY X pins) H a cls d h':=by
 obtain⟨k1,k3,k4⟩:=hL
 have keep: ∀b o,s.heap.get? b=some o->b∉rs->b∉frs X.stack->h'.get? b=some o:=fun b o e n1 n2=>k1 b o ((TI.gone_get fun m=>(List.mem_append.mp m).elim n1 n2).trans e)
 have slot: ∀b o,s.heap.get? b=some o->(∀vs,o.data≠ .fields vs)-> ∃sl,h'.get? b=some {o with slots:=sl}:=k4
 have hok:HOk X.prog X.w H h':=I.hok.bCy fun b u o e q=>keep b u q (fun m=>by rw[(hrs b m).2.1] at e;cases e) (fun m=>by rw[I.aI6 b m] at e;cases e)
 have nL: ∀b∈rs,b≠X.env.locals:=fun b hb z=>by
  obtain⟨_,_,o,vs,e,d⟩:=hrs b hb
  obtain⟨m,⟨oL,es,ep,eL,dL,_⟩,_⟩:=I.loc
  rw[z,eL] at e
  cases e
  rw[dL] at d
  cases d
 have nC: ∀b∈rs,∀x c,X.env.cells.lookup x=some c->c≠b:=fun b hb x c hc z=>by
  obtain⟨_,_,o,vs,e,d⟩:=hrs b hb
  obtain⟨v,oc,ec,dc⟩:=I.cell x c hc
  rw[z,e] at ec
  cases ec
  rw[dc] at d
  cases d
 have I':Inv X pins σ H {s with heap:=h'}:=by
  refine I.bCz (g':=s.gens) (d':=s.drawn) (t':=s.toks) (ch:=rs) (fun b hb=>⟨.inr (hrs b hb).1.1,nL b hb,nC b hb,fun p hp=>(hrs b hb).1.2 p hp⟩) (fun b o n1 n2 n3 e n=>?_) (fun b o n1 n2 n3 e n=>?_) (fun _ _ _ _ n=>n) (fun b o n e=>?_) (fun _ _ e=>e) (fun _ _ _ e=>e) (fun b ps e=>⟨#[],by rw[e];simp⟩) (fun m hm=>?_) hok I.bare
  .exact keep b o e n3 fun z=>(List.mem_cons.mp (I.aI5 b z)).elim n1 n2
  .by_cases hb:b∈frs X.stack
   .obtain⟨_,o',e',d'⟩:=I.stack.mem hb
    rw[e] at e'
    cases e'
    exact slot b o e d'
   .exact⟨o.slots,keep b o e n3 hb⟩
  .by_cases hb:b∈frs X.stack
   .obtain⟨_,o',e',d'⟩:=I.stack.mem hb
    rw[e] at e'
    cases e'
    obtain⟨sl,q⟩:=slot b o e d'
    exact⟨_,q⟩
   .exact⟨o,keep b o e n hb⟩
  .obtain⟨o,es,ep,e,d,r⟩:=hm
   obtain⟨sl,q⟩:=slot _ o e (fun vs z=>by rw[d] at z;cases z)
   exact⟨_,es,ep,q,d,r⟩
 refine⟨I',?_⟩
 obtain⟨oe,vs,T,oT,ts,e1,e2,e4,e3,e5,e6,e7,e8,e9,e10⟩:=k3
 have hT:DY X pins T/\H T=none:=by
  by_cases m:T∈rs
  .exact⟨(hrs T m).1,(hrs T m).2.1⟩
  .by_cases m2:T∈frs X.stack
   .obtain⟨_,o',e',d'⟩:=I.stack.mem m2
    obtain⟨sl,q⟩:=slot T o' e' d'
    rw[e8] at q
    cases q
    exact absurd e9 (d' ts)
   .rw[TI.gone_get fun z=>(List.mem_append.mp z).elim m m2] at e6
    exact⟨I.none0 hex e6,I.hok.aIm e6⟩
 exact⟨⟨oe,vs,e1,e2,e4,e3,.inr ⟨T,oT,ts,e5,e7,e8,e9,e10,hT.1,hT.2⟩⟩,(hrs a ha).1,(hrs a ha).2.1⟩
end
end L2
end
section
namespace L2
open PySem PySem.Spec PyProof.Rows
section
variable{X:Cx}{pins:List (Addr×Obj)}{σ:St}{H:Hp}{s:Shared}{a:Addr}{cls:Value}{d:Option Addr}{M:Model}{E:Value->Shared->Prop}{Q:Unit->Shared->Prop}
structure Own (X:Cx):Prop where
 stk:X.stack=X.env::X.outer
 frm:X.env.frame=some X.env.locals
 aCc:X.ex=[]
theorem Own.frames (o:Own X)(I:Inv X pins σ H s):X.A.frames=some (X.env::X.outer):=by rw[<- o.stk];exact I.ok.frames
theorem Own.HF (o:Own X)(I:Inv X pins σ H s)(rs:List Addr):s.heap.FunFrames (TI.gone s.heap (rs++frs X.stack)) (X.env::X.outer):=by
 have q:=FunFrames.rebase (b2:=TI.gone s.heap (rs++frs X.stack)) I.stack fun L hL=>TI.gone_none (List.mem_append_right _ hL)
 rw[o.stk] at q ⊢
 exact q
theorem U9 {h:Heap}{l:List Addr}:(TI.gone h l).StaysIn h:=fun b o e=>(TI.gone_some e).2
theorem Fly.recs {h:Heap}{Nw:Addr->Prop}(fl:Fly Nw H a cls d h): ∃(rs:List Addr),a∈rs/\(∀b∈rs,Nw b/\H b=none/\ ∃o vs,h.get? b=some o/\o.data= .fields vs)/\ ∃oe vs,h.get? a=some oe/\oe.cls=cls/\oe.data= .fields vs/\vs[2]?=some (ctxV d)/\
  (vs[1]?=some .none\/ ∃T oT ts,vs[1]?=some (.ref T)/\T≠a/\h.get? T=some oT/\oT.data= .fields ts/\ts[3]?=some .none/\T∈rs):=by
 obtain⟨oe,vs,e1,e2,e3,e4,e5⟩:=fl.ex
 rcases e5 with z|⟨T,oT,ts,z1,z2,z3,z4,z5,z6,z7⟩
 .exact⟨[a],by simp,fun b hb=>by rw[List.mem_singleton.mp hb];exact⟨fl.new,fl.fre,oe,vs,e1,e3⟩,oe,vs,e1,e2,e3,e4,.inl z⟩
 .refine⟨[a,T],by simp,fun b hb=>?_,oe,vs,e1,e2,e3,e4,.inr ⟨T,oT,ts,z1,z2,z3,z4,z5,by simp⟩⟩
  rcases List.mem_cons.mp hb with q|q
  .rw[q];exact⟨fl.new,fl.fre,oe,vs,e1,e3⟩
  .rw[List.mem_singleton.mp q];exact⟨z6,z7,oT,ts,z3,z4⟩
theorem aLv {R:Unit->Shared->Prop}(o:Own X)(I:Inv X pins σ H s)(fl:Fly (DY X pins) H a cls d s.heap)
  (k: ∀h',Inv X pins σ H {s with heap:=h'}->Fly (DY X pins) H a cls d h'->R () {s with heap:=h'}):
  wpAny M X.A (noteFrame (.ref a) X.env) (fun _ s2=>wpAny M X.A (setFlight (.ref a) none) R E s2) E s:=by
 obtain⟨rs,ha,hrs,oe,vs,e1,e2,e3,e4,e5⟩:=fl.recs
 subst e2
 have fin: ∀h2:Heap,Lft (TI.gone s.heap (rs++frs X.stack)) a oe.cls (ctxV d) (rawInt X.env.locals) s.heap h2->wpAny M X.A (setFlight (.ref a) none) R E {s with heap:=h2}:=fun h2 x=>
  aUl (s:={s with heap:=h2}) x fun h3 y=>by
   obtain⟨I',f'⟩:=I.noted o.aCc hrs ha y
   exact k h3 I' f'
 have hna:(TI.gone s.heap (rs++frs X.stack)).get? a=none:=TI.gone_none (List.mem_append_left _ ha)
 rcases e5 with z|⟨T,oT,ts,z1,z2,z3,z4,z5,z6⟩
 .exact aLu (o.frames I) (o.HF I rs) o.frm e1 U9 hna e3 z e4 fin
 .exact aOh (o.frames I) (o.HF I rs) o.frm e1 U9 hna e3 z1 e4 (TI.gone_none (List.mem_append_left _ z6)) z2 z3 z4 z5 fin
theorem aOi (o:Own X)(I:Inv X pins σ H s)(fl:Fly (DY X pins) H a cls d s.heap)
  (k: ∀h',Inv X pins σ H {s with heap:=h'}->Fly (DY X pins) H a cls d h'->Q () {s with heap:=h'}):wpAny M X.A («leaving» X.env (.ref a)) Q E s:=by
 unfold «leaving»
 exact wpAny_bind (aLv o I fl k)
theorem aSb {A:Around}(o:Own X)(I:Inv X pins σ H s)(fl:Fly (DY X pins) H a cls d s.heap)
  (k: ∀h',Inv X pins σ H {s with heap:=h'}->Fly (DY X pins) H a cls d h'->Q () {s with heap:=h'}):wpAny M A (setFlight (.ref a) none) Q E s:=by
 obtain⟨rs,ha,hrs,oe,vs,e1,e2,e3,e4,e5⟩:=fl.recs
 rcases e5 with z|⟨T,oT,ts,z1,z2,z3,z4,z5,z6⟩
 .unfold setFlight
  refine wpAny_bind (wpAny_field e1 e3 z ?_)
  rw[if_neg (show ¬((Value.none != Value.none)=true) by decide)]
  exact wpAny_pure (k s.heap I fl)
 .refine aUl (base:=TI.gone s.heap (rs++frs X.stack)) (h:=s.heap) ⟨U9,⟨oe,vs,T,oT,ts,e1,e2,e3,e4,z1,TI.gone_none (List.mem_append_left _ z6),z2,z3,z4,z5⟩,.refl _⟩ fun h3 y=>?_
  obtain⟨I',f'⟩:=I.noted o.aCc hrs ha y
  exact k h3 I' f'
end
theorem uF {CX:CXT}{P:Program}{w:World}{K:PySem.W.Frag}{mg:Str->Option Value}{base:Heap}{N:List Str}{qual:Str}{scope:Scope}{f:Addr}{cd:Value}{A:Around}{outer:List Env}{s:Shared}{H:Hp}{E:XK}:
  Own (aFc CX P w K mg base N qual scope f cd A outer s H E):=⟨rfl,rfl,rfl⟩
theorem iR {P:Program}{w:World}{K:PySem.W.Frag}{mg:Str->Option Value}{base:Heap}{N:List Str}{qual:Str}{scope:Scope}{f:Addr}{cd:Value}{A:Around}{outer:List Env}{s:Shared}{H:Hp}{E:XK}:
  XOk (aFc (CXE P w) P w K mg base N qual scope f cd A outer s H E) E:=fun pins σ H1 s1 a cls d I fl q=>
 aOi uF I fl fun h' I' f'=>⟨a,cls,d,H1,rfl,I'.os,I'.bare,I'.base,I'.hok,f'.imp fun b z=>z.1,q⟩
theorem aC {P:Program}{w:World}{K:PySem.W.Frag}{mg:Str->Option Value}{base:Heap}{N:List Str}{qual:Str}{scope:Scope}{f:Addr}{cd:Value}{A:Around}{outer:List Env}{s:Shared}{H:Hp}{E:XK}:
  Passes (CXE P w) (aFc (CXE P w) P w K mg base N qual scope f cd A outer s H E) E:=aQo iR rfl
theorem bJ.noE {P:Program}{w:World}{K:PySem.W.Frag}{mg:Str->Option Value}{base:Heap}{CX:CXT}{k:Nat}{f:Addr}{fd:FuncData}{ps:List Str}{sp:Sp}(F:bJ P w K mg base CX0 k f fd ps sp):bJ P w K mg base CX k f fd ps sp:=
 ⟨F.len,fun A outer s H args us vs Q E hr he hb hv hs=>codeAny_mono (F.run A outer s H args us vs Q E hr he hb hv hs) fun r s' q=>by
  cases r with
  |error e=>exact False.elim q
  |ok fl=>cases fl <;>exact q⟩
theorem Fun.okE {P:Program}{w:World}{K:PySem.W.Frag}{mg:Str->Option Value}{base:Heap}{x qual:Str}{st:Stmt}{f:Addr}{fd:FuncData}{N ps:List Str}{k:Nat}{sp:Sp}(F:Fun K x qual st f fd)(S:aY N ps (aL st))(len: ∀vs H Q E,sp vs H Q E->vs.length=ps.length)
  (hbody: ∀(cdv:Value)(A:Around)(outer:List Env)(s:Shared)(H:Hp)(vs:List V)(Q:VK)(E:XK),sV k (A.deeper (envOfC qual (aL st) s.heap.objs.size f cdv))->sp vs H Q E->
   ∃t,PSs (aFc (CXE P w) P w K mg base N qual (aL st) f cdv A outer s H E) (gA st) t/\t {nx:=fun _ H'=>Q .non H',rt:=Q} (start N vs) H):bJ P w K mg base (CXE P w) (k+1) f fd ps sp:=by
 obtain⟨oc,od,kV,doc,pm,an,cdv,ct,osl,rfl,lk,hcd⟩:=F.ex
 exact aZ6 lk hcd S len fun A outer s H vs Q E hr hsp=>hbody cdv A outer s H vs Q E hr hsp
end L2
end
section
namespace L2
open PySem PySem.Spec PyProof.Rows
noncomputable def bmE:List Value:=[.type "Exception",.type "BaseException",.type "object"]
noncomputable def ZF (K:PySem.W.Frag)(C:Addr):Bool:=match K.lookup C with
 |some ⟨.type "type",_,.cls cd,sl⟩=>(match sl.toList with
  |[_,_,_,_,some (.builtin n),_]=>cd.mro==(.ref C::bmE)&&n=="Exception.__new__"&& !cd.hasDel&&PySem.W.nsOkIn K cd.ns&&PySem.W.nsIn K cd.ns "__init__"==some none
  |_=>false)
 |_=>false
noncomputable def aX8 (h:Heap)(C:Addr):Prop:= ∃(N:Addr)(nm q:Str)(bs:List Value)(hdct:Bool)(sn:List Str)(sub:List Value)(ab:Bool)(col:Option Bool)(dd:Option Addr)(k0 k1 k2 k3 k5:Option Value)(mN:Str->Option Value),
 h.get? C=some (excClassObj nm q C N bs bmE hdct sn sub ab col dd k0 k1 k2 k3 k5 "Exception.__new__")/\h.Ns N mN/\mN "__init__"=none
theorem aSc {K:PySem.W.Frag}{h:Heap}{C:Addr}(Y:K.In h)(q:ZF K C=true):aX8 h C:=by
 unfold ZF at q
 split at q
 .rename_i dd cd sl ho
  split at q
  .rename_i k0 k1 k2 k3 n k5 hs
   rw[Bool.and_eq_true,Bool.and_eq_true,Bool.and_eq_true,Bool.and_eq_true,beq_iff_eq,beq_iff_eq,beq_iff_eq] at q
   obtain⟨⟨⟨⟨hm,hn⟩,hdel⟩,hok⟩,hni⟩:=q
   obtain⟨nm,bs,mro,ns,qn,hd,sn,sub,ab,col,del⟩:=cd
   dsimp only at hm hdel hok hni
   have hdel:del=false:=by cases del <;>first|rfl|cases hdel
   subst hm hdel hn
   have es:sl= #[k0,k1,k2,k3,some (.builtin "Exception.__new__"),k5]:=by
    obtain⟨l⟩:=sl
    simp only at hs
    rw[hs]
   subst es
   exact⟨ns,nm,qn,bs,hd,sn,sub,ab,col,dd,k0,k1,k2,k3,k5,_,Y _ _ ho,.of_isNs (PySem.W.isNs_of_in Y hok),PySem.W.nsMap_none_of_in Y hok hni⟩
  .cases q
 .cases q
structure XC (K:PySem.W.Frag)(mg:Str->Option Value)(x:Str)(C:Addr):Prop where
 at_:mg x=some (.ref C)
 cls:ZF K C=true
section
variable{X:Cx}{C:Addr}{E:XK}{x:Str}{np cpos pos:Pos}
noncomputable def bAi (C:Addr)(E:XK):TS:=fun _ _ H=>E (.ref C) none H
theorem iH (xo:XOk X E)(hex:X.ex=[])(hc:X.calm=true)(hg:Gl X x)(c:XC X.K X.mg x C)(hd:(x==("__debug__":Str))=false:=by decide):
  PS X (.Raise (some (.Call (.Name x np) [] [] cpos)) none pos) (bAi C E):=by
 intro pins s σ H D I h
 obtain⟨N,nm,q,bs,hdct,sn,sub,ab,col,dd,k0,k1,k2,k3,k5,mN,hC,hN,hni⟩:=aSc I.kIn c.cls
 refine wpAny_Raise_call_subT (C:=C) (nm:=nm) (q:=q) (N:=N) (bs:=bs) (bm:=bmE) (hdct:=hdct) (sn:=sn) (sub:=sub) (ab:=ab) (col:=col) (dd:=dd) (k0:=k0) (k1:=k1) (k2:=k2) (k3:=k3) (k5:=k5)
  PySem.F.excBase_Exception (mN:=mN) (by decide +kernel) (I.ok.hd hc) rfl hni (yL I hg c.at_ ⟨rfl,evalArgs_empty ⟨rfl,Nat.zero_le _,hC,hN,.base,fun h' e hm=>?_⟩⟩ hd)
 obtain⟨t,he,_,_⟩:=hm.there
 exact xo pins σ H _ e (.ref C) none (I.kept (t':=s.toks) hm.keeps) ⟨⟨_,_,he,rfl,rfl,rfl,.inl rfl⟩,I.none0 hex hm.new,I.hok.aIm hm.new⟩ h
end
section
variable{M:Model}{A:Around}{E:Value->Shared->Prop}
theorem aX9 {s:Shared}{e C:Addr}{oe:Obj}{Q:Bool->Shared->Prop}(x:aX8 s.heap C)(he:s.heap.get? e=some oe)(hc:oe.cls= .ref C)(hq:Q true s):wpAny M A (excMatches (.ref e) (.ref C)) Q E s:=by
 obtain⟨N,nm,q,bs,hdct,sn,sub,ab,col,dd,k0,k1,k2,k3,k5,mN,hC,_⟩:=x
 obtain⟨h,g,d,t,os⟩:=s
 exact wpAny_excMatches_sub_self hC he hc (by decide +kernel) hq
theorem aUm {s:Shared}{e C C':Addr}{oe:Obj}{Q:Bool->Shared->Prop}(x:aX8 s.heap C)(x':aX8 s.heap C')(ne:C'≠C)(he:s.heap.get? e=some oe)(hc:oe.cls= .ref C')(hq:Q false s):wpAny M A (excMatches (.ref e) (.ref C)) Q E s:=by
 obtain⟨N,nm,q,bs,hdct,sn,sub,ab,col,dd,k0,k1,k2,k3,k5,mN,hC,_⟩:=x
 obtain⟨N',nm',q',bs',hdct',sn',sub',ab',col',dd',k0',k1',k2',k3',k5',mN',hC',_⟩:=x'
 obtain⟨h,g,d,t,os⟩:=s
 have c1:(Value.ref C::bmE).contains (.type "BaseException")=true:=by simp[bmE]
 have c2:(Value.ref C'::bmE).contains (.ref C)=false:=by simp[bmE,Ne.symm ne]
 have f:=tc_notTuple
 unfold excMatches
 repeat (first|(with_reducible refine wpAny_loadPart_at he ?_;rw[hc])|with_reducible refine wpAny_loadPart_at hC ?_|with_reducible refine wpAny_loadPart_at hC' ?_|(with_reducible refine wpAny_isSubtype_exc hC ?_;rw[c1])|(with_reducible refine wpAny_isSubtype_exc hC' ?_;rw[c2])|wp_step)
 exact hq
end
end L2
end
section
namespace L2
open PySem PySem.Spec PyProof.Rows
noncomputable abbrev Cx.tried (X:Cx)(pn:List (Addr×Obj))(W:Value->Shared->Prop):Cx:={X with pn:=pn,xe:=W}
noncomputable abbrev Cx.suite (X:Cx)(pn:List (Addr×Obj))(e:Addr):Cx:={X with A:=X.A.mark (some (.ref e)),calm:=false,pn:=pn,xe:=notedBy (model X.prog X.w) (X.A.mark (some (.ref e))) X.env (cameBackBy (model X.prog X.w) X.A X.env X.xe)}
section
variable{X:Cx}{pins pn pins':List (Addr×Obj)}{σ:St}{H:Hp}{s:Shared}{e:Addr}{W:Value->Shared->Prop}
theorem Cx.Ok.tried (ok:X.Ok):(X.tried pn W).Ok:=
 ⟨ok.mod,ok.kind,ok.glob,ok.blt,ok.above,ok.inj,ok.has,ok.cab,ok.hd,ok.frames,ok.stk,ok.exf,ok.bs,ok.bsz,ok.aCc,ok.aLb,ok.HF,ok.frf⟩
theorem Cx.Ok.suite (ok:X.Ok):(X.suite pn e).Ok:=
 ⟨ok.mod,ok.kind,ok.glob,ok.blt,ok.above,ok.inj,ok.has,ok.cab,(fun z=>nomatch z),ok.frames,ok.stk,ok.exf,ok.bs,ok.bsz,ok.aCc,ok.aLb,ok.HF,ok.frf⟩
theorem Inv.tried (I:Inv X pins σ H s):Inv (X.tried (X.pn++pins) W) [] σ H s:=⟨I.ok.tried,I.os,I.bare,I.base,I.loc,I.cell,I.free,I.pC,fun p hp=>I.pin p (by rw[List.append_nil] at hp;exact hp),I.hok,I.len⟩
theorem Inv.HW (ok:X.Ok)(I:Inv (X.tried (X.pn++pins) W) pins' σ H s):Inv X pins σ H s:=⟨ok,I.os,I.bare,I.base,I.loc,I.cell,I.free,I.pC,fun p hp=>I.pin p (List.mem_append_left _ hp),I.hok,I.len⟩
theorem Inv.aXa {oe:Obj}(I:Inv X pins σ H s)(h:s.heap.get? e=some oe/\H e=none/\e≠X.env.locals/\e∉X.fs/\ ∀v,oe.data≠ .cell v):Inv (X.suite (X.pn++pins++[(e,oe)]) e) [] σ H s:=
 ⟨I.ok.suite,I.os,I.bare,I.base,I.loc,I.cell,I.free,I.pC,fun p hp=>by
  rw[List.append_nil] at hp
  rcases List.mem_append.mp hp with z|z
  .exact I.pin p z
  .rw[List.mem_singleton.mp z];exact h,I.hok,I.len⟩
theorem Inv.RJ {more:List (Addr×Obj)}(ok:X.Ok)(I:Inv (X.suite (X.pn++pins++more) e) pins' σ H s):Inv X pins σ H s:=
 ⟨ok,I.os,I.bare,I.base,I.loc,I.cell,I.free,I.pC,fun p hp=>I.pin p (List.mem_append_left _ (List.mem_append_left _ hp)),I.hok,I.len⟩
theorem SP.HW {D:Ends}{f:Flow}{s':Shared}(ok:X.Ok)(h:SP (X.tried (X.pn++pins) W) pins' D f s'):SP X pins D f s':=by
 cases f with
 |next=>obtain⟨σ',H',I,q⟩:=h;exact⟨σ',H',I.HW ok,q⟩
 |brk=>obtain⟨σ',H',I,q⟩:=h;exact⟨σ',H',I.HW ok,q⟩
 |cont=>obtain⟨σ',H',I,q⟩:=h;exact⟨σ',H',I.HW ok,q⟩
 |ret u=>obtain⟨v,σ',H',I,r,q⟩:=h;exact⟨v,σ',H',I.HW ok,r,q⟩
theorem SP.RJ {more:List (Addr×Obj)}{D:Ends}{f:Flow}{s':Shared}(ok:X.Ok)(h:SP (X.suite (X.pn++pins++more) e) pins' D f s'):SP X pins D f s':=by
 cases f with
 |next=>obtain⟨σ',H',I,q⟩:=h;exact⟨σ',H',I.RJ ok,q⟩
 |brk=>obtain⟨σ',H',I,q⟩:=h;exact⟨σ',H',I.RJ ok,q⟩
 |cont=>obtain⟨σ',H',I,q⟩:=h;exact⟨σ',H',I.RJ ok,q⟩
 |ret u=>obtain⟨v,σ',H',I,r,q⟩:=h;exact⟨v,σ',H',I.RJ ok,r,q⟩
end
noncomputable def Rec (d:Option Addr)(oe:Obj):Prop:= ∃vs,oe.data= .fields vs/\vs[2]?=some (ctxV d)
noncomputable def PH (X:Cx)(hs:List ExceptHandler)(th:Addr->Option Addr->TS):Prop:= ∀(pins:List (Addr×Obj))(s:Shared)(σ:St)(H:Hp)(D:Ends)(a C:Addr)(d:Option Addr),Inv X pins σ H s->Fly (DY X pins) H a (.ref C) d s.heap->ZF X.K C=true->th C d D σ H->
 wpAny (model X.prog X.w) X.A (handleBy (.ref a) X.env hs) (SP X pins D) X.xe s
section
variable{X:Cx}
theorem aOj:PH X [] (fun _ _=>aO4):=fun _ _ _ _ _ _ _ _ _ _ _ h=>h.elim
theorem RK {x:Str}{np pos:Pos}{b0:Stmt}{suite:List Stmt}{rest:List ExceptHandler}{C:Addr}{ts:Option Addr->TS}{th:Addr->Option Addr->TS}(o:Own X)(hg:Gl X x)(c:XC X.K X.mg x C)
  (hs: ∀(pn:List (Addr×Obj))(e:Addr)(oe:Obj)(d:Option Addr),(e,oe)∈pn->Rec d oe->PSs (X.suite pn e) (b0::suite) (ts d)) (hr:PH X rest th) (hdb:(x==("__debug__":Str))=false:=by decide):
  PH X (.ExceptHandler (some (.Name x np)) none (b0::suite) pos::rest) (fun C' d=>if C'=C then ts d else th C' d):=by
 intro pins s σ H D a C' d I fl xc h
 obtain⟨oe,vs,e1,e2,e3,e4,e5⟩:=fl.ex
 refine wpAny_handleBy_cons (codeAny_handlers_test ?_) (by intro q;cases q)
 refine Calls.Name_function_global I.ok.kind hg (Calls.loadGlobal_global (by rw[I.ok.glob];exact I.mod.glob.keeps I.bk) c.at_ ?_) hdb
 by_cases hC:C'=C
 .subst hC
  rw[if_pos rfl] at h
  refine aX9 (aSc I.kIn c.cls) e1 e2 (codeAny_handlers_suite ?_)
  refine aSb o I fl fun h' I' f'=>?_
  obtain⟨oe',vs',g1,g2,g3,g4,g5⟩:=f'.ex
  have nL:a≠X.env.locals:=fun z=>by
   obtain⟨m,⟨oL,es,ep,eL,dL,_⟩,_⟩:=I'.loc
   have eL:h'.get? X.env.locals=some oL:=eL
   rw[<- z,g1] at eL
   cases eL
   rw[dL] at g3
   cases g3
  have nF:a∉X.fs:=fun z=>by
   obtain⟨_,o',eo,nf⟩:=I'.HF.mem z
   have eo:h'.get? a=some o':=eo
   rw[g1] at eo
   cases eo
   exact nf vs' g3
  have I2:Inv (X.suite (X.pn++pins++[(a,oe')]) a) [] σ H {s with heap:=h'}:=I'.aXa ⟨g1,f'.fre,nL,nF,fun v z=>by rw[g3] at z;cases z⟩
  exact wpAny_mono (hs _ a oe' d (List.mem_append_right _ (by simp)) ⟨vs',g3,g4⟩ [] _ σ H D I2 h) (fun f s1 q=>q.RJ I.ok) fun _ _ z=>z
 .rw[if_neg hC] at h
  exact aUm (aSc I.kIn c.cls) (aSc I.kIn xc) hC e1 e2 (hr pins s σ H D a C' d I fl xc h)
noncomputable def bEw (K:PySem.W.Frag)(Eb:XK)(tb:TS)(th:Addr->Option Addr->TS):TS:=fun D σ H=>tb D σ H/\ ∀cls d σ' H',Eb cls d H'-> ∃C,cls= .ref C/\ZF K C=true/\th C d D σ' H'
theorem aOk {body:List Stmt}{h0:ExceptHandler}{hs:List ExceptHandler}{pos:Pos}{Eb:XK}{tb:TS}{th:Addr->Option Addr->TS}(o:Own X)
  (hb: ∀(pn:List (Addr×Obj))(W:Value->Shared->Prop),XOk (X.tried pn W) Eb->PSs (X.tried pn W) body tb) (hh:PH X (h0::hs) th):PS X (.Try body (h0::hs) [] [] pos) (bEw X.K Eb tb th):=by
 intro pins s σ H D I ⟨h1,h2⟩
 let W:Value->Shared->Prop:=fun e s1=> ∃a cls d σ' H',e= .ref a/\Inv X pins σ' H' s1/\Fly (DY X pins) H' a cls d s1.heap/\Eb cls d H'
 have xo:XOk (X.tried (X.pn++pins) W) Eb:=fun pins' σ' H' s' a cls d I' fl q=>⟨a,cls,d,σ',H',rfl,I'.HW I.ok,fl.imp fun b z=>⟨z.1,fun p hp=>z.2 p (List.mem_append_left _ hp)⟩,q⟩
 refine wpAny_Try_except (wpAny_mono (hb _ W xo [] s σ H D I.tried h1) (fun f s1 q=>?_) fun e s1 q=>?_)
 .have q':=q.HW I.ok
  cases f with
  |next=>exact wpAny_execs_nil q'
  |brk=>exact q'
  |cont=>exact q'
  |ret v=>exact q'
 .obtain⟨a,cls,d,σ',H',rfl,I1,fl,q⟩:=q
  refine aLv o I1 fl fun h' I2 f2=>?_
  obtain⟨C,rfl,xc,ht⟩:=h2 cls d σ' H' q
  exact hh pins _ σ' H' D a C d I2 f2 xc ht
end
end L2
end
section
namespace L2
open PySem PySem.Spec PyProof.Rows
section
variable{X:Cx}{C:Addr}{E:XK}{x:Str}{np cpos pos cp:Pos}
theorem aH1 {pn:List (Addr×Obj)}{e:Addr}(xo:XOk X E)(hd:X.calm=true->X.A.handled=none)(hpn:X.pn=[])(hp:PassesOwnAt (model X.prog X.w) (X.A.mark (some (.ref e))) X.A X.env X.xe):XOk (X.suite pn e) E:=by
 intro pins σ H s a cls d I fl q
 have ok:X.Ok:=⟨I.ok.mod,I.ok.kind,I.ok.glob,I.ok.blt,I.ok.above,I.ok.inj,I.ok.has,I.ok.cab,hd,I.ok.frames,I.ok.stk,I.ok.exf,I.ok.bs,I.ok.bsz,I.ok.aCc,I.ok.aLb,I.ok.HF,I.ok.frf⟩
 have I':Inv X (pn++pins) σ H s:=⟨ok,I.os,I.bare,I.base,I.loc,I.cell,I.free,I.pC,fun p h=>I.pin p (by rw[hpn] at h;exact h),I.hok,I.len⟩
 exact hp _ _ (xo (pn++pins) σ H s a cls d I' (fl.imp fun b z=>⟨z.1,fun p h=>z.2 p (by rw[hpn] at h;exact h)⟩) q)
theorem bAj {pins:List (Addr×Obj)}{s:Shared}{σ:St}{H:Hp}{Q:Value->Shared->Prop}(I:Inv X pins σ H s)(hg:Gl X x)(c:XC X.K X.mg x C)
  (h: ∀h' e,Heap.MadeExcOf s.heap h' e (.ref C) []->Q (.ref e) {s with heap:=h'}) (hd:(x==("__debug__":Str))=false:=by decide):
  wpAny (model X.prog X.w) X.A (eval (.Call (.Name x np) [] [] cpos) X.env) Q X.xe s:=by
 obtain⟨N,nm,q,bs,hdct,sn,sub,ab,col,dd,k0,k1,k2,k3,k5,mN,hC,hN,hni⟩:=aSc I.kIn c.cls
 refine wpAny_Call_ofName (yL I hg c.at_ ?_ hd)
 unfold callWith
 refine wpAny_bind (wpAny_holding (evalArgs_empty ?_))
 refine wpAny_bind (wpAny_standAt ?_)
 obtain⟨hp,g,d,tk,os⟩:=s
 refine wpAny_bind (wpAny_keeperOf_exc hC ?_)
 refine wpAny_bind (wpAny_call_exc_subT (hrest:=Nat.zero_le _) PySem.F.excBase_Exception .base hC hN hni fun h' e hm=>wpAny_bind (wpAny_holding (wpAny_point (wpAny_pure ?_))))
 exact h h' e hm
noncomputable def aXb (C:Addr)(E:XK)(e:Addr):TS:=fun _ _ H=>E (.ref C) (some e) H
theorem aFe:entryFor table "proto.unchain"=some Builtin.«proto.unchain» :=entryFor_of_tree (by kernel_rfl)
theorem aSd {e:Addr}{oe:Obj}{i:Nat}(xo:XOk X E)(hex:X.ex=[])(hh:X.A.handled=some (.ref e))(hp:(e,oe)∈X.pn)(hr:Rec none oe)(hg:Gl X x)(c:XC X.K X.mg x C)(hd:(x==("__debug__":Str))=false:=by decide):
  PS X (.Raise (some (.Call (.Name x np) [] [] cpos)) (some (.Constant .none i cp)) pos) (aXb C E e):=by
 intro pins s σ H D I h
 rw[arm_exec_Raise]
 refine wpAny_bind (wpAny_standAt ?_)
 simp only[evalOpt,Option.map]
 unfold raiseStmt
 refine wpAny_bind (wpAny_bind (bAj I hg c (fun h' e2 hm=>?_) hd))
 refine wpAny_bind (wpAny_standAt (wpAny_pure ?_))
 have I1:Inv X pins σ H {s with heap:=h'}:=I.kept (t':=s.toks) hm.keeps
 obtain⟨t,he,htn,ht⟩:=hm.there
 obtain⟨N,nm,q,bs,hdct,sn,sub,ab,col,dd,k0,k1,k2,k3,k5,mN,hC,hN,hni⟩:=aSc I1.kIn c.cls
 have hcB:(Value.ref C::bmE).contains (.type "BaseException")=true:=by simp[bmE]
 obtain⟨hp0,g,dr,tk,os⟩:=s
 dsimp only at*
 repeat (first|with_reducible refine wpAny_loadPart_at he ?_|with_reducible refine wpAny_loadPart_at hC ?_|(with_reducible refine wpAny_isSubtype_exc hC ?_;rw[hcB])|wp_step)
 have ne2:C≠e2:=fun z=>by
  rw[z,he] at hC
  cases hC
 generalize hh2:(h'.update e2 (Obj.mapFields fun x=>x.setIfInBounds 3 Value.none)).update e2 (Obj.mapFields fun x=>x.setIfInBounds 4 (Value.bool true))=h2
 have oth2: ∀b,b≠e2->h2.get? b=h'.get? b:=fun b hb=>by
  rw[<- hh2,Heap.get?_update_other _ _ (Ne.symm hb),Heap.get?_update_other _ _ (Ne.symm hb)]
 have he2:h2.get? e2=some {cls:=Value.ref C,data:=Data.fields #[Value.ref t,Value.none,Value.none,Value.none,Value.bool true,Value.none]}:=by
  rw[<- hh2,Heap.get?_update_self _ (Heap.get?_update_self _ he rfl) rfl]
  rfl
 have hC2:h2.get? C=some (excClassObj nm q C N bs bmE hdct sn sub ab col dd k0 k1 k2 k3 k5 "Exception.__new__"):=(oth2 C ne2).trans hC
 repeat (first|with_reducible refine wpAny_loadPart_at he2 ?_|with_reducible refine wpAny_loadPart_at hC2 ?_|wp_step)
 obtain⟨vs,hd3,hc3⟩:=hr
 have pe:=(I1.pin (e,oe) (List.mem_append_left _ hp)).1
 have he1:h'.get? e=some oe:=pe
 have ne:e≠e2:=fun z=>by
  have q0:=(I.pin (e,oe) (List.mem_append_left _ hp)).1
  have q1:hp0.get? e=some oe:=q0
  rw[z,hm.new] at q1
  cases q1
 have he3:h2.get? e=some oe:=(oth2 e ne).trans he1
 unfold raiseNew
 refine wpAny_bind (wpAny_handled ?_)
 rw[hh]
 dsimp only
 rw[if_pos (show (Value.ref e != Value.ref e2)=true by simp[ne])]
 refine wpAny_bind (wpAny_holding (wpAny_runValue (codeAny_builtin aFe ?_)))
 unfold Builtin.«proto.unchain»
 dsimp only
 refine wpAny_bind (wpAny_field he3 hd3 hc3 ?_)
 rw[if_pos (show (ctxV none==Value.none)=true by decide)]
 unfold ret
 refine wpAny_pure ?_
 show wpAny _ _ (do updateField e2 2 (Value.ref e);throw (Value.ref e2)) _ _ _
 unfold updateField
 refine wpAny_bind (wpAny_bind (wpAny_load he2 ?_))
 dsimp only
 rw[if_pos (show 2<(#[Value.ref t,Value.none,Value.none,Value.none,Value.bool true,Value.none]:Array Value).size by show 2<6;decide)]
 refine wpAny_update he2 (wpAny_throw ?_)
 have k3: ∀b o,hp0.get? b=some o->(h2.update e2 (Obj.mapFields (·.setIfInBounds 2 (Value.ref e)))).get? b=some o:=fun b o q=>by
  have nb:b≠e2:=fun z=>by rw[z,hm.new] at q;cases q
  rw[Heap.get?_update_other _ _ (Ne.symm nb),oth2 b nb]
  exact hm.keeps b o q
 refine xo pins σ H _ e2 (.ref C) (some e) (I.kept (t':=tk) k3) ⟨⟨_,_,Heap.get?_update_self _ he2 rfl,rfl,rfl,rfl,.inl rfl⟩,I.none0 hex hm.new,I.hok.aIm hm.new⟩ h
end
end L2
end
section
namespace M
open SbThing
mutual
inductive Raw where
 |mk (kind:String) (fs:gP)
inductive gP where
 |nil
 |cons (f:String) (x:FV) (r:gP)
inductive FV where
 |int (i:Int)
 |sd (o:Option Int)
 |lst (l:fD)
 |thing (r:Raw)
inductive fD where
 |nil
 |cons (r:Raw) (l:fD)
end
noncomputable def Raw.kind:Raw->String
 | .mk k _=>k
noncomputable def Raw.fs:Raw->gP
 | .mk _ fs=>fs
noncomputable def fD.length:fD->Nat
 | .nil=>0
 | .cons _ l=>l.length+1
noncomputable def fD.toList:fD->List Raw
 | .nil=>[]
 | .cons r l=>r::l.toList
noncomputable def kindName:Nat->String
 |0=>"glyph"|1=>"kern"|2=>"glue"|3=>"leaders"|4=>"penalty"|5=>"rule"|6=>"box"|7=>"disc"|8=>"adjust"|9=>"mark"|10=>"insertion"|_=>"anchor"
noncomputable def bW:Nat->List (String×String)
 |0=>[("name","name"),("width","length"),("height","length"),("depth","length")]
 |1=>[("size","length")]
 |2=>[("size","length"),("stretch","length"),("stretch order","order"),("shrink","length"),("shrink order","order")]
 |3=>[("size","length"),("stretch","length"),("stretch order","order"),("shrink","length"),("shrink order","order"),("way","way"),("repeated","thing")]
 |4=>[("cost","length")]
 |5=>[("width","side"),("height","side"),("depth","side")]
 |6=>[("direction","direction"),("width","length"),("height","length"),("depth","length"),("order","order"),("numerator","numerator"),("denominator","denominator"),("shift","length"),("things","list")]
 |7=>[("before","list"),("behind","list"),("unparted","list")]
 |8=>[("things","list")]
 |9=>[("class","class")]
 |10=>[("class","class"),("size","length"),("stretch","length"),("stretch order","order"),("shrink","length"),("shrink order","order"),("depth","length"),("cost","length"),("things","list")]
 |_=>[("name","name")]
noncomputable def nO:String->Option (Int×Int)
 |"length"=>some (-1073741823,1073741823)
 |"name"=>some (0,65535)
 |"class"=>some (0,255)
 |"order"=>some (0,3)
 |"way"=>some (0,2)
 |"direction"=>some (0,1)
 |"numerator"=>some (-1152921504606846975,1152921504606846975)
 |"denominator"=>some (1,1152921504606846975)
 |_=>none
noncomputable def inR (form:String)(x:Int):Bool:=match nO form with
 |some (lo,hi)=>decide (lo<=x)&&decide (x<=hi)
 |none=>false
noncomputable def jP:List (String×FV)->gP
 |[]=> .nil
 |(f,x)::r=> .cons f x (jP r)
noncomputable def WR:List (String×FV)->gP->gP
 |[],r=>r
 |(f,x)::l,r=> .cons f x (WR l r)
noncomputable def pF (g:Glue):List (String×FV):=[("size",.int g.size),("stretch",.int g.stretch),("stretch order",.int g.so),("shrink",.int g.shrink),("shrink order",.int g.sho)]
mutual
noncomputable def rawOf:Thing->Raw
 | .glyph n w h d=> .mk "glyph" (jP [("name",.int n),("width",.int w),("height",.int h),("depth",.int d)])
 | .kern k=> .mk "kern" (jP [("size",.int k)])
 | .glue g=> .mk "glue" (jP (pF g))
 | .leaders g how t=> .mk "leaders" (jP (pF g++[("way",.int how),("repeated",.thing (rawOf t))]))
 | .penalty p=> .mk "penalty" (jP [("cost",.int p)])
 | .rule w h d=> .mk "rule" (jP [("width",FV.sd w),("height",FV.sd h),("depth",FV.sd d)])
 | .box c w h d s shift l=> .mk "box" (jP [("direction",.int (flag c)),("width",.int w),("height",.int h),("depth",.int d),("order",.int s.order),("numerator",.int s.num),("denominator",.int s.den),("shift",.int shift),("things",.lst (bK l))])
 | .disc a b c=> .mk "disc" (jP [("before",.lst (bK a)),("behind",.lst (bK b)),("unparted",.lst (bK c))])
 | .adjust l=> .mk "adjust" (jP [("things",.lst (bK l))])
 | .mark c=> .mk "mark" (jP [("class",.int c)])
 | .insert c g d cost l=> .mk "insertion" (jP ([("class",.int c)]++(pF g++[("depth",.int d),("cost",.int cost),("things",.lst (bK l))])))
 | .anchor k=> .mk "anchor" (jP [("name",.int k)])
noncomputable def bK:List Thing->fD
 |[]=> .nil
 |t::l=> .cons (rawOf t) (bK l)
end
noncomputable def vZ (form:String):List Int->Option (FV×List Int)
 |[]=>none
 |x::u=>if inR form x=true then some (.int x,u) else none
noncomputable def qY:List Int->Option (FV×List Int)
 |[]=>none
 |x::u=>if x=0 then some (.sd none,u) else if x=1 then(match u with
  |[]=>none
  |y::v=>if inR "length" y=true then some (.sd (some y),v) else none) else none
mutual
noncomputable def hl:Raw->Bool
 | .mk _ fs=>hlF fs
noncomputable def hlF:gP->Bool
 | .nil=>false
 | .cons _ (.lst l) r=>hlR l||hlF r
 | .cons _ _ r=>hlF r
noncomputable def hlR:fD->Bool
 | .nil=>false
 | .cons r l=>(r.kind=="leaders"||hl r)||hlR l
end
noncomputable def iW (f:List Int->Option (Raw×List Int)):Nat->List Int->Option (fD×List Int)
 |0,u=>some (.nil,u)
 |n+1,u=>match f u with
  |none=>none
  |some (r,v)=>match iW f n v with
   |none=>none
   |some (l,w)=>some (.cons r l,w)
noncomputable def nA (f:List Int->Option (Raw×List Int)):List Int->Option (fD×List Int)
 |[]=>none
 |n::u=>if n<0 then none else iW f n.toNat u
noncomputable def v7 (f:List Int->Option (Raw×List Int))(u:List Int):Option (Raw×List Int):=match f u with
 |none=>none
 |some (r,v)=>if(r.kind≠"rule"/\r.kind≠"box")\/hl r=true then none else some (r,v)
noncomputable def sW (sub:Option (List Int->Option (Raw×List Int)))(form:String)(u:List Int):Option (FV×List Int):=
 if form="list" then(match sub with
  |none=>none
  |some f=>(nA f u).map fun x=>(.lst x.1,x.2))
 else if form="thing" then(match sub with
  |none=>none
  |some f=>(v7 f u).map fun x=>(.thing x.1,x.2))
 else if form="side" then qY u
 else vZ form u
noncomputable def bU (sub:Option (List Int->Option (Raw×List Int))):List (String×String)->List Int->Option (gP×List Int)
 |[],u=>some (.nil,u)
 |(f,form)::r,u=>match sW sub form u with
  |none=>none
  |some (x,v)=>match bU sub r v with
   |none=>none
   |some (fs,w)=>some (.cons f x fs,w)
noncomputable def rdT (sub:Option (List Int->Option (Raw×List Int))):List Int->Option (Raw×List Int)
 |[]=>none
 |k::u=>if 0<=k/\k<12 then(bU sub (bW k.toNat) u).map fun x=>(.mk (kindName k.toNat) x.1,x.2) else none
noncomputable def dI:Nat->List Int->Option (Raw×List Int)
 |0=>rdT none
 |n+1=>rdT (some (dI n))
noncomputable def KY:Nat->Option (List Int->Option (Raw×List Int))
 |0=>none
 |n+1=>some (dI n)
theorem aOl (n:Nat):dI n=rdT (KY n):=by cases n <;>rfl
noncomputable def v9 (u:List Int):Option fD:=match nA (dI 8) u with
 |some (l,[])=>some l
 |_=>none
mutual
noncomputable def tl:Raw->List Int
 | .mk k fs=>(((List.range 12).find? fun i=>kindName i==k).getD 0:Nat)::tlF fs
noncomputable def tlF:gP->List Int
 | .nil=>[]
 | .cons _ x r=>tlV x++tlF r
noncomputable def tlV:FV->List Int
 | .int i=>[i]
 | .sd none=>[0]
 | .sd (some x)=>[1,x]
 | .lst l=>(l.length:Int)::tlR l
 | .thing r=>tl r
noncomputable def tlR:fD->List Int
 | .nil=>[]
 | .cons r l=>tl r++tlR l
end
theorem fP (x:Int):inR "length" x=isLen x:=by
 show (decide (-1073741823<=x)&&decide (x<=1073741823))=_
 unfold isLen FAR
 rfl
noncomputable def okT (n:Nat)(x:Option (Thing×List Int)):Option (Raw×List Int):=x.bind fun y=>if right n y.1=true then some (rawOf y.1,y.2) else none
noncomputable def okL (n:Nat)(x:Option (List Thing×List Int)):Option (fD×List Int):=x.bind fun y=>if y.1.all (right n)=true then some (bK y.1,y.2) else none
theorem aH2 {n:Nat}{f:List Int->Option (Raw×List Int)}{g:List Int->Option (Thing×List Int)}(h: ∀u,f u=okT n (g u)): ∀(k:Nat)(u:List Int),iW f k u=okL n (many g k u)
 |0,u=>by simp[iW,many,okL,bK]
 |k+1,u=>by
  rw[iW,many,h u]
  cases e:g u with
  |none=>rfl
  |some y=>
   obtain⟨t,v⟩:=y
   have ih:=aH2 h k v
   by_cases r:right n t=true
   .simp only[okT,Option.bind_some,r,if_true,ih]
    cases e2:many g k v with
    |none=>rfl
    |some z=>
     obtain⟨l,w⟩:=z
     cases r2:l.all (right n) with
     |true=>simp only[okL,Option.map_some,Option.bind_some,r2,if_true,List.all_cons,r,Bool.and_self,bK]
     |false=>simp only[okL,Option.map_some,Option.bind_some,r2,List.all_cons,r,Bool.and_false];rfl
   .simp only[okT,Option.bind_some,r]
    cases e2:many g k v with
    |none=>rfl
    |some z=>simp[okL,r]
theorem tE {n:Nat}{f:List Int->Option (Raw×List Int)}{g:List Int->Option (Thing×List Int)}(h: ∀u,f u=okT n (g u))(u:List Int):nA f u=okL n (listIn g u):=by
 cases u with
 |nil=>rfl
 |cons k u=>
  rw[nA,listIn]
  by_cases c:k<0
  .rw[if_pos c,if_neg (by lia)];rfl
  .rw[if_neg c,if_pos (by lia),aH2 h]
noncomputable def ZG:Thing->Bool
 | .leaders _ _ _=>true
 |_=>false
theorem aXc (t:Thing):((rawOf t).kind=="leaders")=ZG t:=by cases t <;>simp[rawOf,Raw.kind,ZG]
theorem aUn (t:Thing):((rawOf t).kind≠"rule"/\(rawOf t).kind≠"box")↔repeated t=false:=by cases t <;>simp[rawOf,Raw.kind,repeated]
mutual
theorem aLw: ∀(n:Nat)(t:Thing),right n t=true->(ZG t||hl (rawOf t))= !plain n t
 |n,.glyph _ _ _ _,_=>by cases n <;>rfl
 |n,.kern _,_=>by cases n <;>rfl
 |n,.glue _,_=>by cases n <;>rfl
 |n,.leaders _ _ _,_=>by cases n <;>rfl
 |n,.penalty _,_=>by cases n <;>rfl
 |n,.rule _ _ _,_=>by cases n <;>rfl
 |0,.box _ _ _ _ _ _ _,h=>by simp[right] at h
 |n+1,.box _ _ _ _ _ _ l,h=>by
  have h':l.all (right n)=true:=by simp only[right,Bool.and_eq_true] at h;exact h.2.2.2.2.2
  show (_||_)= !(l.all (plain n))
  simp[ZG,rawOf,hl,jP,hlF,tH n l h']
 |0,.disc _ _ _,h=>by simp[right] at h
 |n+1,.disc a b c,h=>by
  simp only[right,Bool.and_eq_true] at h
  show (_||_)= !(a.all (plain n)&&(b.all (plain n)&&c.all (plain n)))
  simp[ZG,rawOf,hl,jP,hlF,tH n a h.1,tH n b h.2.1,tH n c h.2.2]
 |0,.adjust _,h=>by simp[right] at h
 |n+1,.adjust l,h=>by
  have h':l.all (right n)=true:=by simpa only[right] using h
  show (_||_)= !(l.all (plain n))
  simp[ZG,rawOf,hl,jP,hlF,tH n l h']
 |n,.mark _,_=>by cases n <;>rfl
 |0,.insert _ _ _ _ _,h=>by simp[right] at h
 |n+1,.insert _ _ _ _ l,h=>by
  have h':l.all (right n)=true:=by simp only[right,Bool.and_eq_true] at h;exact h.2.2.2.2
  show (_||_)= !(l.all (plain n))
  simp[ZG,rawOf,hl,jP,pF,hlF,tH n l h']
 |n,.anchor _,_=>by cases n <;>rfl
theorem tH: ∀(n:Nat)(l:List Thing),l.all (right n)=true->hlR (bK l)= !l.all (plain n)
 |n,[],_=>by simp[bK,hlR]
 |n,t::l,h=>by
  have h':right n t=true/\l.all (right n)=true:=by simpa [List.all_cons] using h
  simp only[bK,hlR,aXc,List.all_cons,aLw n t h'.1,tH n l h'.2,Bool.not_and]
end
theorem aLx {n:Nat}{f:List Int->Option (Raw×List Int)}{g:List Int->Option (Thing×List Int)}(h: ∀u,f u=okT n (g u))(u:List Int):
  v7 f u=(g u).bind fun y=>if(repeated y.1&&(plain n y.1&&right n y.1))=true then some (rawOf y.1,y.2) else none:=by
 rw[v7,h u]
 cases e:g u with
 |none=>rfl
 |some y=>
  obtain⟨t,v⟩:=y
  cases r:right n t with
  |false=>simp[okT,r]
  |true=>
   have hp:=aLw n t r
   simp only[okT,Option.bind_some,r,if_true,Bool.and_true]
   have e1:=aUn t
   cases rp:repeated t with
   |false=>
    rw[if_pos (.inl (e1.mpr rp))]
    simp
   |true=>
    have nl:ZG t=false:=by cases t <;>simp_all[repeated,ZG]
    rw[nl,Bool.false_or] at hp
    have n1: ¬((rawOf t).kind≠"rule"/\(rawOf t).kind≠"box"):=fun z=>by rw[e1.mp z] at rp;cases rp
    cases pl:plain n t with
    |true=>rw[pl] at hp;simp only[Bool.not_true] at hp;simp[hp];exact fun a=>Classical.byContradiction fun b=>n1 ⟨a,b⟩
    |false=>rw[pl] at hp;simp only[Bool.not_false] at hp;simp[hp]
theorem sX {α β:Type}{c:Prop}[Decidable c]{x:Option α}{f:α->β}:Option.map f (if c then x else none)=if c then x.map f else none:=by split <;>rfl
theorem vA {α β:Type}{c:Prop}[Decidable c]{x:Option α}{f:α->Option β}:(if c then x else none).bind f=if c then x.bind f else none:=by split <;>rfl
theorem N5 {α:Type}{c d:Prop}[Decidable c][Decidable d]{x:Option α}:(if c then(if d then x else none) else none)=if c/\d then x else none:=by
 by_cases h:c <;>by_cases k:d <;>simp[h,k]
theorem fY {α:Type}{c d:Prop}[Decidable c][Decidable d]{x y:Option α}(h:c↔d)(e:c->x=y):(if c then x else none)=if d then y else none:=by
 by_cases k:c
 .rw[if_pos k,if_pos (h.mp k),e k]
 .rw[if_neg k,if_neg fun z=>k (h.mpr z)]
section
variable{sub:Option (List Int->Option (Raw×List Int))}{f form:String}{rest:List (String×String)}{x:Int}{u:List Int}
noncomputable def numeric (form:String):Prop:=form≠"list"/\form≠"thing"/\form≠"side"
noncomputable instance:Decidable (numeric form):=by unfold numeric;infer_instance
theorem aIn (h:numeric form):sW sub form u=vZ form u:=by
 obtain⟨h1,h2,h3⟩:=h
 unfold sW
 rw[if_neg h1,if_neg h2,if_neg h3]
theorem aV (h:numeric form):bU sub ((f,form)::rest) (x::u)=if inR form x=true then(bU sub rest u).map fun z=>(.cons f (.int x) z.1,z.2) else none:=by
 rw[bU,aIn h,vZ]
 by_cases c:inR form x=true
 .rw[if_pos c,if_pos c]
  dsimp only
  cases bU sub rest u <;>rfl
 .rw[if_neg c,if_neg c]
theorem fQ (h:numeric form):bU sub ((f,form)::rest) []=none:=by
 rw[bU,aIn h,vZ]
end
theorem EY (x:Int):inR "order" x=(decide (0<=x)&&decide (x<=3)):=rfl
theorem aIo (x:Int):inR "way" x=(decide (0<=x)&&decide (x<=2)):=rfl
theorem FJ (x:Int):inR "name" x=(decide (0<=x)&&decide (x<=65535)):=rfl
theorem wR (x:Int):inR "class" x=(decide (0<=x)&&decide (x<=255)):=rfl
theorem zW (x:Int):inR "direction" x=(decide (0<=x)&&decide (x<=1)):=rfl
theorem aQp (x:Int):inR "numerator" x=(decide (-1152921504606846975<=x)&&decide (x<=1152921504606846975)):=rfl
theorem aIp (x:Int):inR "denominator" x=(decide (1<=x)&&decide (x<=1152921504606846975)):=rfl
theorem fG:numeric "length":=by decide
theorem aBb:numeric "order":=by decide
theorem bAk:numeric "way":=by decide
theorem nName:numeric "name":=by decide
theorem aSe:numeric "class":=by decide
theorem aFf:numeric "direction":=by decide
theorem aUo:numeric "numerator":=by decide
theorem aXd:numeric "denominator":=by decide
theorem aCy (sub:Option (List Int->Option (Raw×List Int)))(rest:List (String×String))(u:List Int):
  bU sub (("size","length")::("stretch","length")::("stretch order","order")::("shrink","length")::("shrink order","order")::rest) u=
   (glueIn u).bind fun y=>if glueOk y.1=true then(bU sub rest y.2).map fun z=>(WR (pF y.1) z.1,z.2) else none:=by
 match u with
 |[]=>rw[fQ fG];rfl
 |[a]=>rw[aV fG,fQ fG];simp[glueIn]
 |[a,b]=>rw[aV fG,aV fG,fQ aBb];simp[glueIn]
 |[a,b,c]=>rw[aV fG,aV fG,aV aBb,fQ fG];simp[glueIn]
 |[a,b,c,d]=>rw[aV fG,aV fG,aV aBb,aV fG,fQ aBb];simp[glueIn]
 |a::b::c::d::e::v=>
  rw[aV fG,aV fG,aV aBb,aV fG,aV aBb]
  simp only[sX,N5,glueIn,vA,Option.bind_some,Option.map_map]
  refine fY ?_ fun h=>?_
  .simp only[glueOk,fP,EY,Bool.and_eq_true,decide_eq_true_eq]
   constructor
   .rintro⟨h1,h2,h3,h4,h5⟩;exact⟨⟨h3.1,h5.1⟩,h1,h2,by lia,h4,by lia⟩
   .rintro⟨⟨h1,h2⟩,h3,h4,h5,h6,h7⟩;exact⟨h3,h4,⟨h1,by lia⟩,h6,h2,by lia⟩
  .obtain⟨h1,h2,h3,h4,h5⟩:=h
   rw[EY,Bool.and_eq_true,decide_eq_true_eq,decide_eq_true_eq] at h3 h5
   have e1:((c.toNat:Nat):Int)=c:=by lia
   have e2:((e.toNat:Nat):Int)=e:=by lia
   simp only[WR,pF,e1,e2]
   rfl
theorem nQ {f:List Int->Option (Raw×List Int)}{u:List Int}:sW (some f) "list" u=(nA f u).map fun x=>(.lst x.1,x.2):=by unfold sW;rw[if_pos rfl]
theorem vB {u:List Int}:sW none "list" u=none:=by unfold sW;rw[if_pos rfl]
theorem WT {f:List Int->Option (Raw×List Int)}{u:List Int}:sW (some f) "thing" u=(v7 f u).map fun x=>(.thing x.1,x.2):=by unfold sW;rw[if_neg (by decide),if_pos rfl]
theorem aH3 {u:List Int}:sW none "thing" u=none:=by unfold sW;rw[if_neg (by decide),if_pos rfl]
theorem yP {sub:Option (List Int->Option (Raw×List Int))}{u:List Int}:sW sub "side" u=qY u:=by unfold sW;rw[if_neg (by decide),if_neg (by decide),if_pos rfl]
theorem gF {sub:Option (List Int->Option (Raw×List Int))}{f form:String}{rest:List (String×String)}{u:List Int}:bU sub ((f,form)::rest) u=(sW sub form u).bind fun y=>(bU sub rest y.2).map fun z=>(.cons f y.1 z.1,z.2):=by
 rw[bU]
 cases sW sub form u with
 |none=>rfl
 |some y=>
  dsimp only[Option.bind_some]
  cases bU sub rest y.2 <;>rfl
theorem iI {sub:Option (List Int->Option (Raw×List Int))}{u:List Int}:bU sub [] u=some (.nil,u):=rfl
theorem aC3 (u:List Int):qY u=(optIn u).bind fun y=>if optOk y.1=true then some (.sd y.1,y.2) else none:=by
 match u with
 |[]=>rfl
 |x::v=>
  rw[qY.eq_def]
  dsimp only
  by_cases h0:x=0
  .subst h0;rfl
  .rw[if_neg h0]
   by_cases h1:x=1
   .subst h1
    rw[if_pos rfl]
    cases v with
    |nil=>rfl
    |cons y w=>simp[optIn,optOk,fP];rfl
   .rw[if_neg h1]
    unfold optIn
    split
    .rename_i e;cases e;exact absurd rfl h0
    .rename_i e;cases e;exact absurd rfl h1
    .rfl
noncomputable def Sub (n:Nat)(sub:Option (List Int->Option (Raw×List Int)))(g:List Int->Option (Thing×List Int)):Prop:=match n with
 |0=>sub=none
 |n+1=> ∃f,sub=some f/\ ∀u,f u=okT n (g u)
theorem yQ {α:Type}{n:Nat}{x:Option α}{f:α->Thing×List Int}:okT n (x.map f)=x.bind fun y=>if right n (f y).1=true then some (rawOf (f y).1,(f y).2) else none:=by cases x <;>rfl
theorem wB {n:Nat}{c:Prop}[Decidable c]{x:Option (Thing×List Int)}:okT n (if c then x else none)=if c then okT n x else none:=by split <;>rfl
section
variable{n:Nat}{sub:Option (List Int->Option (Raw×List Int))}{g:List Int->Option (Thing×List Int)}
noncomputable abbrev mkT (k:Nat)(x:Option (gP×List Int)):Option (Raw×List Int):=x.map fun y=>(.mk (kindName k) y.1,y.2)
theorem t0 (r:List Int):mkT 0 (bU sub (bW 0) r)=okT n (kindIn g 0 r):=by
 show mkT 0 (bU sub (("name","name")::("width","length")::("height","length")::("depth","length")::[]) r)=_
 match r with
 |[]=>rw[fQ nName];rfl
 |[a]=>rw[aV nName,fQ fG];simp[kindIn,okT]
 |[a,b]=>rw[aV nName,aV fG,fQ fG];simp[kindIn,okT]
 |[a,b,c]=>rw[aV nName,aV fG,aV fG,fQ fG];simp[kindIn,okT]
 |a::b::c::d::v=>
  rw[aV nName,aV fG,aV fG,aV fG,iI]
  simp only[kindIn,if_true,wB,sX,N5,Option.map_some]
  simp only[okT,Option.bind_some,N5]
  refine fY ?_ fun h=>?_
  .have q:right n (.glyph a.toNat b c d)=(decide (((a.toNat:Nat):Int)<=NAMES)&&(isLen b&&(isLen c&&isLen d))):=by cases n <;>rfl
   rw[q,fP,fP,fP,FJ]
   simp only[Bool.and_eq_true,decide_eq_true_eq]
   unfold NAMES
   constructor
   .intro h;exact⟨h.1.1,by have:=h.1.2;lia,h.2⟩
   .intro h;exact⟨⟨h.1,by have:=h.2.1;lia⟩,h.2.2⟩
  .have h1:=h.1
   rw[FJ,Bool.and_eq_true,decide_eq_true_eq,decide_eq_true_eq] at h1
   have e1:((a.toNat:Nat):Int)=a:=by lia
   simp only[rawOf,jP,e1,kindName]
theorem t1 (r:List Int):mkT 1 (bU sub (bW 1) r)=okT n (kindIn g 1 r):=by
 show mkT 1 (bU sub (("size","length")::[]) r)=_
 match r with
 |[]=>rw[fQ fG];rfl
 |a::v=>
  rw[aV fG,iI]
  cases n <;>simp[kindIn,okT,right,fP,sX,rawOf,jP,kindName] <;>rfl
theorem t2 (r:List Int):mkT 2 (bU sub (bW 2) r)=okT n (kindIn g 2 r):=by
 show mkT 2 (bU sub (("size","length")::("stretch","length")::("stretch order","order")::("shrink","length")::("shrink order","order")::[]) r)=_
 rw[aCy]
 have e:kindIn g 2 r=(glueIn r).map fun(x:Glue×List Int)=>(.glue x.1,x.2):=by simp[kindIn]
 rw[e,yQ]
 cases glueIn r with
 |none=>rfl
 |some y=>cases n <;>simp[sX,right,rawOf,iI,WR,jP,pF,kindName]
theorem t4 (r:List Int):mkT 4 (bU sub (bW 4) r)=okT n (kindIn g 4 r):=by
 show mkT 4 (bU sub (("cost","length")::[]) r)=_
 match r with
 |[]=>rw[fQ fG];rfl
 |a::v=>
  rw[aV fG,iI]
  cases n <;>simp[kindIn,okT,right,fP,sX,rawOf,jP,kindName] <;>rfl
theorem t5 (r:List Int):mkT 5 (bU sub (bW 5) r)=okT n (kindIn g 5 r):=by
 show mkT 5 (bU sub (("width","side")::("height","side")::("depth","side")::[]) r)=_
 rw[gF,yP,aC3]
 have e:kindIn g 5 r=(match optIn r with
  |none=>none
  |some w=>match optIn w.2 with
   |none=>none
   |some h=>(optIn h.2).map fun(d:Option Int×List Int)=>(.rule w.1 h.1 d.1,d.2)):=by simp[kindIn];rfl
 rw[e]
 cases optIn r with
 |none=>rfl
 |some w=>
  dsimp only[Option.bind_some]
  rw[vA,Option.bind_some]
  dsimp only
  rw[gF,yP,aC3]
  cases optIn w.2 with
  |none=>simp[okT]
  |some h=>
   dsimp only[Option.bind_some]
   rw[vA,Option.bind_some]
   dsimp only
   rw[gF,yP,aC3]
   cases optIn h.2 with
   |none=>simp[okT]
   |some d=>
    simp only[Option.bind_some,vA,Option.map_some,sX,N5,iI,okT]
    refine fY ?_ fun h=>?_
    .cases n <;>simp[right]
    .simp[rawOf,jP,kindName]
theorem t9 (r:List Int):mkT 9 (bU sub (bW 9) r)=okT n (kindIn g 9 r):=by
 show mkT 9 (bU sub (("class","class")::[]) r)=_
 match r with
 |[]=>rw[fQ aSe];rfl
 |a::v=>
  rw[aV aSe,iI]
  have e:kindIn g 9 (a::v)=if 0<=a then some (.mark a.toNat,v) else none:=by simp[kindIn]
  rw[e]
  simp only[wB,sX,N5,Option.map_some]
  simp only[okT,Option.bind_some,N5]
  refine fY ?_ fun h=>?_
  .have q:right n (.mark a.toNat)=decide (((a.toNat:Nat):Int)<=CLASSES):=by cases n <;>rfl
   rw[q,wR]
   simp only[Bool.and_eq_true,decide_eq_true_eq]
   unfold CLASSES
   lia
  .rw[wR,Bool.and_eq_true,decide_eq_true_eq,decide_eq_true_eq] at h
   have e1:((a.toNat:Nat):Int)=a:=by lia
   simp only[rawOf,jP,e1,kindName]
theorem t11 (r:List Int):mkT 11 (bU sub (bW 11) r)=okT n (kindIn g 11 r):=by
 show mkT 11 (bU sub (("name","name")::[]) r)=_
 match r with
 |[]=>rw[fQ nName];rfl
 |a::v=>
  rw[aV nName,iI]
  have e:kindIn g 11 (a::v)=if 0<=a then some (.anchor a.toNat,v) else none:=by simp[kindIn]
  rw[e]
  simp only[wB,sX,N5,Option.map_some]
  simp only[okT,Option.bind_some,N5]
  refine fY ?_ fun h=>?_
  .have q:right n (.anchor a.toNat)=decide (((a.toNat:Nat):Int)<=NAMES):=by cases n <;>rfl
   rw[q,FJ]
   simp only[Bool.and_eq_true,decide_eq_true_eq]
   unfold NAMES
   lia
  .rw[FJ,Bool.and_eq_true,decide_eq_true_eq,decide_eq_true_eq] at h
   have e1:((a.toNat:Nat):Int)=a:=by lia
   simp only[rawOf,jP,e1,kindName]
theorem t8 (h:Sub n sub g)(r:List Int):mkT 8 (bU sub (bW 8) r)=okT n (kindIn g 8 r):=by
 show mkT 8 (bU sub (("things","list")::[]) r)=_
 have e:kindIn g 8 r=(listIn g r).map fun(x:List Thing×List Int)=>(.adjust x.1,x.2):=by simp[kindIn]
 rw[e,yQ,gF]
 match n,h with
 |0,h=>
  obtain rfl:sub=none:=h
  rw[vB]
  cases listIn g r <;>simp[-List.all_eq_true,right]
 |n+1,⟨f,hs,hf⟩=>
  subst hs
  rw[nQ,tE hf]
  cases listIn g r with
  |none=>rfl
  |some y=>
   cases c:y.1.all (right n) <;>simp[-List.all_eq_true,okL,right,c,rawOf,jP,kindName,iI]
theorem t7 (h:Sub n sub g)(r:List Int):mkT 7 (bU sub (bW 7) r)=okT n (kindIn g 7 r):=by
 show mkT 7 (bU sub (("before","list")::("behind","list")::("unparted","list")::[]) r)=_
 have e:kindIn g 7 r=(match listIn g r with
  |none=>none
  |some a=>match listIn g a.2 with
   |none=>none
   |some b=>(listIn g b.2).map fun(c:List Thing×List Int)=>(.disc a.1 b.1 c.1,c.2)):=by simp[kindIn];rfl
 rw[e,gF]
 match n,h with
 |0,h=>
  obtain rfl:sub=none:=h
  rw[vB]
  cases listIn g r with
  |none=>rfl
  |some a=>
   dsimp only
   cases listIn g a.2 with
   |none=>rfl
   |some b=>
    dsimp only
    cases listIn g b.2 <;>simp[-List.all_eq_true,right,okT]
 |n+1,⟨f,hs,hf⟩=>
  subst hs
  rw[nQ,tE hf]
  cases listIn g r with
  |none=>rfl
  |some a=>
   cases ca:a.1.all (right n) with
   |false=>
    dsimp only
    cases listIn g a.2 with
    |none=>simp[-List.all_eq_true,okL,okT,ca]
    |some b=>
     dsimp only
     cases listIn g b.2 <;>simp[-List.all_eq_true,right,okL,okT,ca]
   |true=>
    simp only[okL,Option.bind_some,ca,if_true,Option.map_some]
    rw[gF,nQ,tE hf]
    cases listIn g a.2 with
    |none=>rfl
    |some b=>
     cases cb:b.1.all (right n) with
     |false=>
      dsimp only
      cases listIn g b.2 <;>simp[-List.all_eq_true,right,okL,okT,ca,cb]
     |true=>
      simp only[okL,Option.bind_some,cb,if_true,Option.map_some]
      rw[gF,nQ,tE hf]
      cases listIn g b.2 with
      |none=>rfl
      |some c=>cases cc:c.1.all (right n) <;>simp[-List.all_eq_true,right,okL,okT,ca,cb,cc,rawOf,jP,kindName,iI]
theorem t3 (h:Sub n sub g)(r:List Int):mkT 3 (bU sub (bW 3) r)=okT n (kindIn g 3 r):=by
 show mkT 3 (bU sub (("size","length")::("stretch","length")::("stretch order","order")::("shrink","length")::("shrink order","order")::("way","way")::("repeated","thing")::[]) r)=_
 rw[aCy]
 have e:kindIn g 3 r=(match glueIn r with
  |some (gl,how::u)=>if 0<=how then(g u).map fun(x:Thing×List Int)=>(.leaders gl how.toNat x.1,x.2) else none
  |_=>none):=by simp[kindIn];rfl
 rw[e]
 cases glueIn r with
 |none=>rfl
 |some y=>
  obtain⟨gl,v⟩:=y
  dsimp only[Option.bind_some]
  cases v with
  |nil=>rw[fQ bAk];simp[okT]
  |cons how u=>
   rw[aV bAk,gF]
   match n,h with
   |0,h=>
    obtain rfl:sub=none:=h
    rw[aH3]
    simp only[wB,yQ]
    cases g u <;>simp[-List.all_eq_true,right]
   |n+1,⟨f,hs,hf⟩=>
    subst hs
    rw[WT,aLx hf]
    simp only[wB,yQ]
    cases g u with
    |none=>simp[sX]
    |some x=>
     simp only[Option.bind_some,sX,vA,N5,Option.map_some,iI]
     refine fY ?_ fun h=>?_
     .simp only[right,aIo,Bool.and_eq_true,decide_eq_true_eq]
      constructor
      .rintro⟨h1,h2,h3⟩;exact⟨h2.1,h1,by lia,h3⟩
      .rintro⟨h1,h2,h3,h4⟩;exact⟨h2,⟨h1,by lia⟩,h4⟩
     .obtain⟨_,h2,_⟩:=h
      rw[aIo,Bool.and_eq_true,decide_eq_true_eq,decide_eq_true_eq] at h2
      have e1:((how.toNat:Nat):Int)=how:=by lia
      simp only[rawOf,jP,WR,pF,List.cons_append,List.nil_append,e1,kindName]
theorem t10 (h:Sub n sub g)(r:List Int):mkT 10 (bU sub (bW 10) r)=okT n (kindIn g 10 r):=by
 show mkT 10 (bU sub (("class","class")::("size","length")::("stretch","length")::("stretch order","order")::("shrink","length")::("shrink order","order")::("depth","length")::("cost","length")::("things","list")::[]) r)=_
 cases r with
 |nil=>rw[fQ aSe];rfl
 |cons c u=>
  rw[aV aSe,aCy]
  have e:kindIn g 10 (c::u)=(match glueIn u with
   |some (gl,d::cost::v)=>if 0<=c then(listIn g v).map fun(x:List Thing×List Int)=>(.insert c.toNat gl d cost x.1,x.2) else none
   |_=>none):=by simp[kindIn];rfl
  rw[e]
  cases glueIn u with
  |none=>simp[okT]
  |some y=>
   obtain⟨gl,v⟩:=y
   dsimp only[Option.bind_some]
   match v with
   |[]=>rw[fQ fG];simp[okT]
   |[d]=>rw[aV fG,fQ fG];simp[okT]
   |d::cost::v=>
    rw[aV fG,aV fG,gF]
    match n,h with
    |0,h=>
     obtain rfl:sub=none:=h
     rw[vB]
     simp only[wB,yQ]
     cases listIn g v <;>simp[-List.all_eq_true,right]
    |n+1,⟨f,hs,hf⟩=>
     subst hs
     rw[nQ,tE hf]
     simp only[wB,yQ]
     cases listIn g v with
     |none=>simp[sX,okL]
     |some x=>
      simp only[okL,Option.bind_some,sX,vA,N5,Option.map_some,iI]
      refine fY ?_ fun h=>?_
      .have q:right (n+1) (.insert c.toNat gl d cost x.1)=(decide (((c.toNat:Nat):Int)<=CLASSES)&&(glueOk gl&&(isLen d&&(isLen cost&&x.1.all (right n))))):=rfl
       rw[q,wR,fP,fP]
       simp only[Bool.and_eq_true,decide_eq_true_eq]
       unfold CLASSES
       constructor
       .rintro⟨h1,h2,h3,h4,h5⟩;exact⟨h1.1,by lia,h2,h3,h4,h5⟩
       .rintro⟨h1,h2,h3,h4,h5,h6⟩;exact⟨⟨h1,by lia⟩,h3,h4,h5,h6⟩
      .have h1:=h.1
       rw[wR,Bool.and_eq_true,decide_eq_true_eq,decide_eq_true_eq] at h1
       have e1:((c.toNat:Nat):Int)=c:=by lia
       simp only[rawOf,jP,WR,pF,List.cons_append,List.nil_append,e1,kindName]
theorem t6 (h:Sub n sub g)(r:List Int):mkT 6 (bU sub (bW 6) r)=okT n (kindIn g 6 r):=by
 show mkT 6 (bU sub (("direction","direction")::("width","length")::("height","length")::("depth","length")::("order","order")::("numerator","numerator")::("denominator","denominator")::("shift","length")::("things","list")::[]) r)=_
 match r with
 |[]=>rw[fQ aFf];rfl
 |[a]=>rw[aV aFf,fQ fG];simp[kindIn,okT]
 |[a,b]=>rw[aV aFf,aV fG,fQ fG];simp[kindIn,okT]
 |[a,b,c]=>rw[aV aFf,aV fG,aV fG,fQ fG];simp[kindIn,okT]
 |[a,b,c,d]=>rw[aV aFf,aV fG,aV fG,aV fG,fQ aBb];simp[kindIn,okT]
 |[a,b,c,d,o]=>rw[aV aFf,aV fG,aV fG,aV fG,aV aBb,fQ aUo];simp[kindIn,okT]
 |[a,b,c,d,o,p]=>rw[aV aFf,aV fG,aV fG,aV fG,aV aBb,aV aUo,fQ aXd];simp[kindIn,okT]
 |[a,b,c,d,o,p,q]=>rw[aV aFf,aV fG,aV fG,aV fG,aV aBb,aV aUo,aV aXd,fQ fG];simp[kindIn,okT]
 |a::w::hh::d::o::p::q::s::u=>
  rw[aV aFf,aV fG,aV fG,aV fG,aV aBb,aV aUo,aV aXd,aV fG,gF]
  have e:kindIn g 6 (a::w::hh::d::o::p::q::s::u)=if 0<=o/\0<=q then(match boolIn a with
   |none=>none
   |some b=>(listIn g u).map fun(x:List Thing×List Int)=>(.box b w hh d ⟨o.toNat,p,q.toNat⟩ s x.1,x.2)) else none:=by simp[kindIn];rfl
  rw[e]
  by_cases ha:a=0\/a=1
  .obtain⟨b,hb,hfl⟩: ∃b,boolIn a=some b/\flag b=a:=by
    rcases ha with rfl|rfl
    .exact⟨false,rfl,rfl⟩
    .exact⟨true,rfl,rfl⟩
   rw[hb]
   dsimp only
   match n,h with
   |0,h=>
    obtain rfl:sub=none:=h
    rw[vB]
    simp only[wB,yQ]
    cases listIn g u <;>simp[-List.all_eq_true,right]
   |n+1,⟨f,hs,hf⟩=>
    subst hs
    rw[nQ,tE hf]
    simp only[wB,yQ]
    cases listIn g u with
    |none=>simp[sX,okL]
    |some x=>
     simp only[okL,Option.bind_some,sX,vA,N5,Option.map_some,iI]
     refine fY ?_ fun h=>?_
     .have qq:right (n+1) (.box b w hh d ⟨o.toNat,p,q.toNat⟩ s x.1)=(isLen w&&(isLen hh&&(isLen d&&((decide (o.toNat<=3)&&(decide (-WIDE<p)&&(decide (p<WIDE)&&(decide (1<=q.toNat)&&decide (((q.toNat:Nat):Int)<WIDE)))))&&(isLen s&&x.1.all (right n)))))):=rfl
      rw[qq,zW,fP,fP,fP,EY,aQp,aIp,fP]
      simp only[Bool.and_eq_true,decide_eq_true_eq]
      unfold WIDE
      constructor
      .rintro⟨h1,h2,h3,h4,h5,h6,h7,h8,h9⟩;exact⟨⟨h5.1,by lia⟩,h2,h3,h4,⟨by lia,by lia,by lia,by lia,by lia⟩,h8,h9⟩
      .rintro⟨⟨h1,h2⟩,h3,h4,h5,⟨h6,h7,h8,h9,h10⟩,h11,h12⟩;exact⟨by lia,h3,h4,h5,by lia,by lia,by lia,h11,h12⟩
     .have h5:=h.2.2.2.2.1
      have h7:=h.2.2.2.2.2.2.1
      rw[EY,Bool.and_eq_true,decide_eq_true_eq,decide_eq_true_eq] at h5
      rw[aIp,Bool.and_eq_true,decide_eq_true_eq,decide_eq_true_eq] at h7
      have e1:((o.toNat:Nat):Int)=o:=by lia
      have e2:((q.toNat:Nat):Int)=q:=by lia
      simp only[rawOf,jP,e1,e2,hfl,kindName]
  .have n1:boolIn a=none:=by
    unfold boolIn
    rw[if_neg (fun z=>ha (.inl z)),if_neg (fun z=>ha (.inr z))]
   have n2: ¬inR "direction" a=true:=by
    rw[zW,Bool.and_eq_true,decide_eq_true_eq,decide_eq_true_eq]
    lia
   rw[n1,if_neg n2]
   simp[okT]
theorem bD1 (h:Sub n sub g): ∀u,rdT sub u=okT n (match u with|[]=>none|k::r=>kindIn g k r)
 |[]=>rfl
 |k::r=>by
  rw[rdT]
  by_cases hk:0<=k/\k<12
  .rw[if_pos hk]
   have:k=0\/k=1\/k=2\/k=3\/k=4\/k=5\/k=6\/k=7\/k=8\/k=9\/k=10\/k=11:=by lia
   rcases this with rfl|rfl|rfl|rfl|rfl|rfl|rfl|rfl|rfl|rfl|rfl|rfl
   .exact t0 r
   .exact t1 r
   .exact t2 r
   .exact t3 h r
   .exact t4 r
   .exact t5 r
   .exact t6 h r
   .exact t7 h r
   .exact t8 h r
   .exact t9 r
   .exact t10 h r
   .exact t11 r
  .rw[if_neg hk]
   dsimp only
   unfold kindIn
   rw[if_neg (by lia),if_neg (by lia),if_neg (by lia),if_neg (by lia),if_neg (by lia),if_neg (by lia),if_neg (by lia),if_neg (by lia),if_neg (by lia),if_neg (by lia),if_neg (by lia),if_neg (by lia)]
   rfl
end
theorem UG: ∀(n:Nat)(u:List Int),dI n u=okT n (thingIn n u)
 |0,u=>by
  rw[dI,bD1 (n:=0) (g:=fun _=>none) rfl]
  cases u <;>rfl
 |n+1,u=>by
  rw[dI,bD1 (n:=n+1) (g:=thingIn n) ⟨dI n,rfl,UG n⟩]
  cases u <;>rfl
theorem aCz (u:List Int):v9 u=(SbThing.read u).map bK:=by
 unfold v9 SbThing.read
 rw[tE (UG 8)]
 show (match okL 8 (listIn (thingIn DEEP) u) with|some (l,[])=>some l|_=>none)=_
 cases listIn (thingIn DEEP) u with
 |none=>rfl
 |some y=>
  obtain⟨l,v⟩:=y
  cases v with
  |nil=>cases c:l.all (right 8) <;>simp[-List.all_eq_true,okL,DEEP,c]
  |cons x v=>cases c:l.all (right 8) <;>simp[-List.all_eq_true,okL,c]
theorem qZ: ∀l:List Thing,(bK l).length=l.length
 |[]=>rfl
 |_::l=>by rw[bK,fD.length,qZ l,List.length_cons]
mutual
theorem aZe: ∀(n:Nat)(t:Thing),right n t=true->tl (rawOf t)=nums n t
 |n,.glyph _ _ _ _,_=>by cases n <;>rfl
 |n,.kern _,_=>by cases n <;>rfl
 |n,.glue _,_=>by cases n <;>rfl
 |0,.leaders _ _ _,h=>by simp[right] at h
 |n+1,.leaders g how t,h=>by
  have h':right n t=true:=by simp only[right,Bool.and_eq_true] at h;exact h.2.2.2.2
  have e:=aZe n t h'
  show 3::(glueNums g++((how:Int)::(tl (rawOf t)++[])))=_
  rw[List.append_nil,e]
  rfl
 |n,.penalty _,_=>by cases n <;>rfl
 |n,.rule w h d,_=>by cases n <;>cases w <;>cases h <;>cases d <;>rfl
 |0,.box _ _ _ _ _ _ _,h=>by simp[right] at h
 |n+1,.box c w hh d s shift l,h=>by
  have h':l.all (right n)=true:=by simp only[right,Bool.and_eq_true] at h;exact h.2.2.2.2.2
  have e:=N7 n l h'
  show 6::flag c::w::hh::d::(s.order:Int)::s.num::(s.den:Int)::shift::(((bK l).length:Int)::(tlR (bK l))++[])=_
  rw[List.append_nil,e,qZ]
  rfl
 |0,.disc _ _ _,h=>by simp[right] at h
 |n+1,.disc a b c,h=>by
  simp only[right,Bool.and_eq_true] at h
  have e1:=N7 n a h.1
  have e2:=N7 n b h.2.1
  have e3:=N7 n c h.2.2
  show 7::(((bK a).length:Int)::tlR (bK a))++((((bK b).length:Int)::tlR (bK b))++((((bK c).length:Int)::tlR (bK c))++[]))=_
  rw[List.append_nil,e1,e2,e3,qZ,qZ,qZ]
  rfl
 |0,.adjust _,h=>by simp[right] at h
 |n+1,.adjust l,h=>by
  have h':l.all (right n)=true:=by simpa only[right] using h
  have e:=N7 n l h'
  show 8::((((bK l).length:Int)::tlR (bK l))++[])=_
  rw[List.append_nil,e,qZ]
  rfl
 |n,.mark _,_=>by cases n <;>rfl
 |0,.insert _ _ _ _ _,h=>by simp[right] at h
 |n+1,.insert c g d cost l,h=>by
  have h':l.all (right n)=true:=by simp only[right,Bool.and_eq_true] at h;exact h.2.2.2.2
  have e:=N7 n l h'
  show 10::(c:Int)::(glueNums g++(d::cost::((((bK l).length:Int)::tlR (bK l))++[])))=_
  rw[List.append_nil,e,qZ]
  rfl
 |n,.anchor _,_=>by cases n <;>rfl
theorem N7: ∀(n:Nat)(l:List Thing),l.all (right n)=true->tlR (bK l)=l.flatMap (nums n)
 |n,[],_=>rfl
 |n,t::l,h=>by
  have h':right n t=true/\l.all (right n)=true:=by simpa [List.all_cons] using h
  rw[bK,tlR,aZe n t h'.1,N7 n l h'.2,List.flatMap_cons]
end
noncomputable def pG (l:fD):List Int:=(l.length:Int)::tlR l
theorem FN {l:List Thing}(h:l.all (right DEEP)=true):pG (bK l)=told l:=by
 unfold pG told listNums
 rw[qZ,N7 DEEP l h]
end M
end
section
namespace M
open SbThing
theorem aQq {n:Nat}{f:List Int->Option (Raw×List Int)}(hf: ∀t u,f (tl (rawOf t)++u)=if right n t=true then some (rawOf t,u) else none):
  ∀(l:List Thing)(u:List Int),iW f l.length (tlR (bK l)++u)=if l.all (right n)=true then some (bK l,u) else none
 |[],u=>by simp[iW,bK,tlR]
 |t::l,u=>by
  rw[List.length_cons,iW,bK,tlR,List.append_assoc,hf t]
  cases c:right n t with
  |false=>simp only[List.all_cons,c,Bool.false_and];rfl
  |true=>
   rw[if_pos rfl]
   dsimp only
   rw[aQq hf l u]
   cases c2:l.all (right n) with
   |false=>simp only[List.all_cons,c,c2,Bool.and_false];rfl
   |true=>simp only[List.all_cons,c,c2,Bool.and_self,if_true]
theorem HX {n:Nat}{f:List Int->Option (Raw×List Int)}(hf: ∀t u,f (tl (rawOf t)++u)=if right n t=true then some (rawOf t,u) else none)(l:List Thing)(u:List Int):
  nA f (((bK l).length:Int)::(tlR (bK l)++u))=if l.all (right n)=true then some (bK l,u) else none:=by
 rw[nA,if_neg (by lia),qZ]
 exact aQq hf l u
theorem bAl {n:Nat}{f:List Int->Option (Raw×List Int)}(hf: ∀t u,f (tl (rawOf t)++u)=if right n t=true then some (rawOf t,u) else none)(t:Thing)(u:List Int):
  v7 f (tl (rawOf t)++u)=if(repeated t&&(plain n t&&right n t))=true then some (rawOf t,u) else none:=by
 have h:v7 f (tl (rawOf t)++u)=v7 (fun _=>okT n (some (t,u))) []:=by
  unfold v7
  rw[hf]
  rfl
 rw[h,aLx (n:=n) (g:=fun _=>some (t,u)) (fun _=>rfl)]
 rfl
noncomputable def bEx (n:Nat)(sub:Option (List Int->Option (Raw×List Int))):Prop:=match n with
 |0=>sub=none
 |n+1=> ∃f,sub=some f/\ ∀t u,f (tl (rawOf t)++u)=if right n t=true then some (rawOf t,u) else none
section
variable{n:Nat}{sub:Option (List Int->Option (Raw×List Int))}
theorem vJ {k:Int}{r:List Int}(h0:0<=k)(h:k<12):rdT sub (k::r)=mkT k.toNat (bU sub (bW k.toNat) r):=by rw[rdT,if_pos ⟨h0,h⟩]
theorem aIq (g:Glue)(rest:List (String×String))(u:List Int):
  bU sub (("size","length")::("stretch","length")::("stretch order","order")::("shrink","length")::("shrink order","order")::rest) (glueNums g++u)=if glueOk g=true then(bU sub rest u).map fun z=>(WR (pF g) z.1,z.2) else none:=by
 rw[aCy]
 have e:glueIn (glueNums g++u)=some (g,u):=by
  show (if 0<=(g.so:Int)/\0<=(g.sho:Int) then some (({size:=g.size,stretch:=g.stretch,so:=(g.so:Int).toNat,shrink:=g.shrink,sho:=(g.sho:Int).toNat}:Glue),u) else none)=_
  rw[if_pos (by lia)]
  rfl
 rw[e]
 rfl
theorem aIr (o:Option Int)(u:List Int):qY (tlV (.sd o)++u)=if optOk o=true then some (.sd o,u) else none:=by
 rw[aC3]
 cases o <;>rfl
theorem rt (h:bEx n sub)(t:Thing)(u:List Int):rdT sub (tl (rawOf t)++u)=if right n t=true then some (rawOf t,u) else none:=by
 cases t with
 |glyph nm w hh d=>
  show rdT sub (0::(nm:Int)::w::hh::d::u)=_
  rw[vJ (by decide) (by decide)]
  show mkT 0 (bU sub (("name","name")::("width","length")::("height","length")::("depth","length")::[]) _)=_
  rw[aV nName,aV fG,aV fG,aV fG,iI]
  simp only[sX,N5,Option.map_some]
  refine fY ?_ fun _=>rfl
  have q:right n (.glyph nm w hh d)=(decide ((nm:Int)<=NAMES)&&(isLen w&&(isLen hh&&isLen d))):=by cases n <;>rfl
  rw[q,fP,fP,fP,FJ]
  simp only[Bool.and_eq_true,decide_eq_true_eq]
  unfold NAMES
  constructor
  .intro h;exact⟨by have:=h.1.2;lia,h.2⟩
  .intro h;exact⟨⟨by lia,by have:=h.1;lia⟩,h.2⟩
 |kern k=>
  show rdT sub (1::k::u)=_
  rw[vJ (by decide) (by decide)]
  show mkT 1 (bU sub (("size","length")::[]) _)=_
  rw[aV fG,iI]
  simp only[sX,Option.map_some]
  refine fY ?_ fun _=>rfl
  have q:right n (.kern k)=isLen k:=by cases n <;>rfl
  rw[q,fP]
 |glue g=>
  show rdT sub (2::(glueNums g++u))=_
  rw[vJ (by decide) (by decide)]
  show mkT 2 (bU sub (("size","length")::("stretch","length")::("stretch order","order")::("shrink","length")::("shrink order","order")::[]) _)=_
  rw[aIq,iI]
  simp only[sX,Option.map_some]
  refine fY ?_ fun _=>rfl
  have q:right n (.glue g)=glueOk g:=by cases n <;>rfl
  rw[q]
 |leaders g how t=>
  have e0:tl (rawOf (.leaders g how t))++u=3::(glueNums g++((how:Int)::(tl (rawOf t)++u))):=by
   show 3::(glueNums g++((how:Int)::(tl (rawOf t)++[])))++u=_
   simp
  rw[e0,vJ (by decide) (by decide)]
  show mkT 3 (bU sub (("size","length")::("stretch","length")::("stretch order","order")::("shrink","length")::("shrink order","order")::("way","way")::("repeated","thing")::[]) _)=_
  rw[aIq,aV bAk,gF]
  match n,h with
  |0,h=>
   obtain rfl:sub=none:=h
   rw[aH3]
   simp[right]
  |n+1,⟨f,hs,hf⟩=>
   subst hs
   rw[WT,bAl hf]
   simp only[sX,vA,N5,Option.map_some,Option.bind_some,iI]
   refine fY ?_ fun _=>?_
   .simp only[right,aIo,Bool.and_eq_true,decide_eq_true_eq]
    constructor
    .rintro⟨h1,h2,h3⟩;exact⟨h1,by lia,h3⟩
    .rintro⟨h1,h2,h3⟩;exact⟨h1,⟨by lia,by lia⟩,h3⟩
   .simp only[rawOf,jP,WR,pF,List.cons_append,List.nil_append]
    rfl
 |penalty p=>
  show rdT sub (4::p::u)=_
  rw[vJ (by decide) (by decide)]
  show mkT 4 (bU sub (("cost","length")::[]) _)=_
  rw[aV fG,iI]
  simp only[sX,Option.map_some]
  refine fY ?_ fun _=>rfl
  have q:right n (.penalty p)=isLen p:=by cases n <;>rfl
  rw[q,fP]
 |rule w hh d=>
  have e0:tl (rawOf (.rule w hh d))++u=5::(tlV (.sd w)++(tlV (.sd hh)++(tlV (.sd d)++u))):=by
   show 5::(tlV (.sd w)++(tlV (.sd hh)++(tlV (.sd d)++[])))++u=_
   simp
  rw[e0,vJ (by decide) (by decide)]
  show mkT 5 (bU sub (("width","side")::("height","side")::("depth","side")::[]) _)=_
  rw[gF,yP,aIr,vA,Option.bind_some]
  dsimp only
  rw[gF,yP,aIr,vA,Option.bind_some]
  dsimp only
  rw[gF,yP,aIr,vA,Option.bind_some]
  dsimp only
  simp only[sX,N5,Option.map_some,iI]
  refine fY ?_ fun _=>rfl
  have q:right n (.rule w hh d)=(optOk w&&(optOk hh&&optOk d)):=by cases n <;>rfl
  rw[q]
  simp only[Bool.and_eq_true]
 |box c w hh d s shift l=>
  have e0:tl (rawOf (.box c w hh d s shift l))++u=6::flag c::w::hh::d::(s.order:Int)::s.num::(s.den:Int)::shift::(((bK l).length:Int)::(tlR (bK l)++u)):=by
   show 6::flag c::w::hh::d::(s.order:Int)::s.num::(s.den:Int)::shift::((((bK l).length:Int)::(tlR (bK l)))++[])++u=_
   simp
  rw[e0,vJ (by decide) (by decide)]
  show mkT 6 (bU sub (("direction","direction")::("width","length")::("height","length")::("depth","length")::("order","order")::("numerator","numerator")::("denominator","denominator")::("shift","length")::("things","list")::[]) _)=_
  rw[aV aFf,aV fG,aV fG,aV fG,aV aBb,aV aUo,aV aXd,aV fG,gF]
  match n,h with
  |0,h=>
   obtain rfl:sub=none:=h
   rw[vB]
   simp[right]
  |n+1,⟨f,hs,hf⟩=>
   subst hs
   rw[nQ,HX hf]
   simp only[sX,vA,N5,Option.map_some,Option.bind_some,iI]
   refine fY ?_ fun _=>rfl
   have qq:right (n+1) (.box c w hh d s shift l)=(isLen w&&(isLen hh&&(isLen d&&((decide (s.order<=3)&&(decide (-WIDE<s.num)&&(decide (s.num<WIDE)&&(decide (1<=s.den)&&decide ((s.den:Int)<WIDE)))))&&(isLen shift&&l.all (right n)))))):=rfl
   have fc:0<=flag c/\flag c<=1:=by cases c <;>decide
   rw[qq,zW,fP,fP,fP,EY,aQp,aIp,fP]
   simp only[Bool.and_eq_true,decide_eq_true_eq]
   unfold WIDE
   constructor
   .rintro⟨h1,h2,h3,h4,h5,h6,h7,h8,h9⟩;exact⟨h2,h3,h4,⟨by lia,by lia,by lia,by lia,by lia⟩,h8,h9⟩
   .rintro⟨h3,h4,h5,⟨h6,h7,h8,h9,h10⟩,h11,h12⟩;exact⟨fc,h3,h4,h5,by lia,by lia,by lia,h11,h12⟩
 |disc a b c=>
  have e0:tl (rawOf (.disc a b c))++u=7::(((bK a).length:Int)::(tlR (bK a)++(((bK b).length:Int)::(tlR (bK b)++(((bK c).length:Int)::(tlR (bK c)++u)))))):=by
   show 7::(((bK a).length:Int)::tlR (bK a))++((((bK b).length:Int)::tlR (bK b))++((((bK c).length:Int)::tlR (bK c))++[]))++u=_
   simp
  rw[e0,vJ (by decide) (by decide)]
  show mkT 7 (bU sub (("before","list")::("behind","list")::("unparted","list")::[]) _)=_
  rw[gF]
  match n,h with
  |0,h=>
   obtain rfl:sub=none:=h
   rw[vB]
   simp[right]
  |n+1,⟨f,hs,hf⟩=>
   subst hs
   rw[nQ,HX hf,sX,vA,Option.map_some,Option.bind_some]
   dsimp only
   rw[gF,nQ,HX hf,sX,vA,Option.map_some,Option.bind_some]
   dsimp only
   rw[gF,nQ,HX hf]
   simp only[sX,vA,N5,Option.map_some,Option.bind_some,iI]
   refine fY ?_ fun _=>rfl
   have q:right (n+1) (.disc a b c)=(a.all (right n)&&(b.all (right n)&&c.all (right n))):=rfl
   rw[q]
   simp only[Bool.and_eq_true]
 |adjust l=>
  have e0:tl (rawOf (.adjust l))++u=8::(((bK l).length:Int)::(tlR (bK l)++u)):=by
   show 8::((((bK l).length:Int)::tlR (bK l))++[])++u=_
   simp
  rw[e0,vJ (by decide) (by decide)]
  show mkT 8 (bU sub (("things","list")::[]) _)=_
  rw[gF]
  match n,h with
  |0,h=>
   obtain rfl:sub=none:=h
   rw[vB]
   simp[right]
  |n+1,⟨f,hs,hf⟩=>
   subst hs
   rw[nQ,HX hf]
   simp only[sX,vA,Option.map_some,Option.bind_some,iI]
   refine fY ?_ fun _=>rfl
   have q:right (n+1) (.adjust l)=l.all (right n):=rfl
   rw[q]
 |mark c=>
  show rdT sub (9::(c:Int)::u)=_
  rw[vJ (by decide) (by decide)]
  show mkT 9 (bU sub (("class","class")::[]) _)=_
  rw[aV aSe,iI]
  simp only[sX,Option.map_some]
  refine fY ?_ fun _=>rfl
  have q:right n (.mark c)=decide ((c:Int)<=CLASSES):=by cases n <;>rfl
  rw[q,wR]
  simp only[Bool.and_eq_true,decide_eq_true_eq]
  unfold CLASSES
  lia
 |insert c g d cost l=>
  have e0:tl (rawOf (.insert c g d cost l))++u=10::(c:Int)::(glueNums g++(d::cost::(((bK l).length:Int)::(tlR (bK l)++u)))):=by
   show 10::(c:Int)::(glueNums g++(d::cost::((((bK l).length:Int)::tlR (bK l))++[])))++u=_
   simp
  rw[e0,vJ (by decide) (by decide)]
  show mkT 10 (bU sub (("class","class")::("size","length")::("stretch","length")::("stretch order","order")::("shrink","length")::("shrink order","order")::("depth","length")::("cost","length")::("things","list")::[]) _)=_
  rw[aV aSe,aIq,aV fG,aV fG,gF]
  match n,h with
  |0,h=>
   obtain rfl:sub=none:=h
   rw[vB]
   simp[right]
  |n+1,⟨f,hs,hf⟩=>
   subst hs
   rw[nQ,HX hf]
   simp only[sX,vA,N5,Option.map_some,Option.bind_some,iI]
   refine fY ?_ fun _=>?_
   .have q:right (n+1) (.insert c g d cost l)=(decide ((c:Int)<=CLASSES)&&(glueOk g&&(isLen d&&(isLen cost&&l.all (right n))))):=rfl
    rw[q,wR,fP,fP]
    simp only[Bool.and_eq_true,decide_eq_true_eq]
    unfold CLASSES
    constructor
    .rintro⟨h1,h2⟩;exact⟨by lia,h2⟩
    .rintro⟨h1,h2⟩;exact⟨by lia,h2⟩
   .simp only[rawOf,jP,WR,pF,List.cons_append,List.nil_append]
    rfl
 |anchor k=>
  show rdT sub (11::(k:Int)::u)=_
  rw[vJ (by decide) (by decide)]
  show mkT 11 (bU sub (("name","name")::[]) _)=_
  rw[aV nName,iI]
  simp only[sX,Option.map_some]
  refine fY ?_ fun _=>rfl
  have q:right n (.anchor k)=decide ((k:Int)<=NAMES):=by cases n <;>rfl
  rw[q,FJ]
  simp only[Bool.and_eq_true,decide_eq_true_eq]
  unfold NAMES
  lia
end
theorem aD0: ∀(n:Nat)(t:Thing)(u:List Int),dI n (tl (rawOf t)++u)=if right n t=true then some (rawOf t,u) else none
 |0,t,u=>rt (n:=0) (sub:=none) rfl t u
 |n+1,t,u=>rt (n:=n+1) (sub:=some (dI n)) ⟨dI n,rfl,aD0 n⟩ t u
theorem aUp (l:List Thing):v9 (pG (bK l))=if l.all (right DEEP)=true then some (bK l) else none:=by
 unfold v9 pG
 have e:=HX (n:=8) (aD0 8) l []
 rw[List.append_nil] at e
 rw[e]
 cases c:l.all (right 8) <;>simp[-List.all_eq_true,DEEP,c]
noncomputable def fine (l:fD):Bool:=decide ((pG l).length<=2000)&&(v9 (pG l)).isSome
theorem aQr (l:List Thing):fine (bK l)=SbSpec.keeps l:=by
 unfold fine SbSpec.keeps
 rw[aUp]
 cases c:l.all (right DEEP) with
 |false=>simp
 |true=>
  rw[FN c]
  simp[SbSpec.MOST]
  rfl
noncomputable def gP.app:gP->gP->gP
 | .nil,r=>r
 | .cons f x l,r=> .cons f x (l.app r)
noncomputable def fD.snoc:fD->Raw->fD
 | .nil,x=> .cons x .nil
 | .cons r l,x=> .cons r (l.snoc x)
noncomputable def fD.app:fD->fD->fD
 | .nil,r=>r
 | .cons x l,r=> .cons x (l.app r)
theorem aIs: ∀fs:gP,fs.app .nil=fs
 | .nil=>rfl
 | .cons f x l=>by rw[gP.app,aIs l]
theorem aLy: ∀l:fD,l.app .nil=l
 | .nil=>rfl
 | .cons x l=>by rw[fD.app,aLy l]
theorem aH4: ∀(l:fD)(x:Raw)(r:fD),(l.snoc x).app r=l.app (.cons x r)
 | .nil,_,_=>rfl
 | .cons y l,x,r=>by rw[fD.snoc,fD.app,fD.app,aH4 l x r]
noncomputable def allR (g:Raw->Prop):fD->Prop
 | .nil=>True
 | .cons r l=>g r/\allR g l
noncomputable def wfV (sub:Option (Raw->Prop))(form:String):FV->Prop
 | .lst l=>form="list"/\ ∃g,sub=some g/\allR g l
 | .thing r=>form="thing"/\ ∃g,sub=some g/\g r
 | .sd _=>form="side"
 | .int _=>(nO form).isSome=true
noncomputable def wfF (sub:Option (Raw->Prop)):List (String×String)->gP->Prop
 |[],.nil=>True
 |(f,form)::r,.cons g x s=>f=g/\wfV sub form x/\wfF sub r s
 |_,_=>False
noncomputable def wfK (sub:Option (Raw->Prop))(r:Raw):Prop:= ∃i,i<12/\r.kind=kindName i/\wfF sub (bW i) r.fs
noncomputable def wf:Nat->Raw->Prop
 |0=>wfK none
 |n+1=>wfK (some (wf n))
noncomputable def bD2:Nat->Option (Raw->Prop)
 |0=>none
 |n+1=>some (wf n)
theorem WW (n:Nat):wf n=wfK (bD2 n):=by cases n <;>rfl
noncomputable def dn:Nat->Thing->Bool
 |n+1,.leaders _ _ t=>dn n t
 |n+1,.box _ _ _ _ _ _ l=>l.all (dn n)
 |n+1,.disc a b c=>a.all (dn n)&&(b.all (dn n)&&c.all (dn n))
 |n+1,.adjust l=>l.all (dn n)
 |n+1,.insert _ _ _ _ l=>l.all (dn n)
 |0,.leaders _ _ _=>false
 |0,.box _ _ _ _ _ _ _=>false
 |0,.disc _ _ _=>false
 |0,.adjust _=>false
 |0,.insert _ _ _ _ _=>false
 |_,_=>true
theorem lE {p q:Thing->Bool}(h: ∀t,p t=true->q t=true){l:List Thing}(k:l.all p=true):l.all q=true:=by
 rw[List.all_eq_true] at k ⊢
 exact fun t ht=>h t (k t ht)
theorem rA: ∀(n:Nat)(t:Thing),right n t=true->dn n t=true
 |n,.glyph _ _ _ _,_=>by cases n <;>rfl
 |n,.kern _,_=>by cases n <;>rfl
 |n,.glue _,_=>by cases n <;>rfl
 |0,.leaders _ _ _,h=>by simp[right] at h
 |n+1,.leaders _ _ t,h=>by
  have h':right n t=true:=by simp only[right,Bool.and_eq_true] at h;exact h.2.2.2.2
  exact rA n t h'
 |n,.penalty _,_=>by cases n <;>rfl
 |n,.rule _ _ _,_=>by cases n <;>rfl
 |0,.box _ _ _ _ _ _ _,h=>by simp[right] at h
 |n+1,.box _ _ _ _ _ _ l,h=>by
  have h':l.all (right n)=true:=by simp only[right,Bool.and_eq_true] at h;exact h.2.2.2.2.2
  exact lE (rA n) h'
 |0,.disc _ _ _,h=>by simp[right] at h
 |n+1,.disc a b c,h=>by
  simp only[right,Bool.and_eq_true] at h
  show (a.all (dn n)&&(b.all (dn n)&&c.all (dn n)))=true
  rw[lE (rA n) h.1,lE (rA n) h.2.1,lE (rA n) h.2.2];rfl
 |0,.adjust _,h=>by simp[right] at h
 |n+1,.adjust l,h=>by
  have h':l.all (right n)=true:=by simpa only[right] using h
  exact lE (rA n) h'
 |n,.mark _,_=>by cases n <;>rfl
 |0,.insert _ _ _ _ _,h=>by simp[right] at h
 |n+1,.insert _ _ _ _ l,h=>by
  have h':l.all (right n)=true:=by simp only[right,Bool.and_eq_true] at h;exact h.2.2.2.2
  exact lE (rA n) h'
 |n,.anchor _,_=>by cases n <;>rfl
theorem N8 {n:Nat}{g:Raw->Prop}(h: ∀t,dn n t=true->g (rawOf t)): ∀{l:List Thing},l.all (dn n)=true->allR g (bK l)
 |[],_=>True.intro
 |t::l,k=>by
  rw[List.all_cons,Bool.and_eq_true] at k
  exact⟨h t k.1,N8 h k.2⟩
theorem HY: ∀(n:Nat)(t:Thing),dn n t=true->wf n (rawOf t)
 |n,.glyph _ _ _ _,_=>by rw[WW];exact⟨0,by decide,rfl,rfl,rfl,rfl,rfl,rfl,rfl,rfl,rfl,True.intro⟩
 |n,.kern _,_=>by rw[WW];exact⟨1,by decide,rfl,rfl,rfl,True.intro⟩
 |n,.glue _,_=>by rw[WW];exact⟨2,by decide,rfl,rfl,rfl,rfl,rfl,rfl,rfl,rfl,rfl,rfl,rfl,True.intro⟩
 |0,.leaders _ _ _,h=>by cases h
 |n+1,.leaders _ _ t,h=>⟨3,by decide,rfl,rfl,rfl,rfl,rfl,rfl,rfl,rfl,rfl,rfl,rfl,rfl,rfl,rfl,⟨rfl,_,rfl,HY n t h⟩,True.intro⟩
 |n,.penalty _,_=>by rw[WW];exact⟨4,by decide,rfl,rfl,rfl,True.intro⟩
 |n,.rule _ _ _,_=>by rw[WW];exact⟨5,by decide,rfl,rfl,rfl,rfl,rfl,rfl,rfl,True.intro⟩
 |0,.box _ _ _ _ _ _ _,h=>by cases h
 |n+1,.box _ _ _ _ _ _ l,h=>⟨6,by decide,rfl,rfl,rfl,rfl,rfl,rfl,rfl,rfl,rfl,rfl,rfl,rfl,rfl,rfl,rfl,rfl,rfl,rfl,⟨rfl,_,rfl,N8 (HY n) h⟩,True.intro⟩
 |0,.disc _ _ _,h=>by cases h
 |n+1,.disc a b c,h=>by
  have h':(a.all (dn n)&&(b.all (dn n)&&c.all (dn n)))=true:=h
  rw[Bool.and_eq_true,Bool.and_eq_true] at h'
  exact⟨7,by decide,rfl,rfl,⟨rfl,_,rfl,N8 (HY n) h'.1⟩,rfl,⟨rfl,_,rfl,N8 (HY n) h'.2.1⟩,rfl,⟨rfl,_,rfl,N8 (HY n) h'.2.2⟩,True.intro⟩
 |0,.adjust _,h=>by cases h
 |n+1,.adjust l,h=>⟨8,by decide,rfl,rfl,⟨rfl,_,rfl,N8 (HY n) h⟩,True.intro⟩
 |n,.mark _,_=>by rw[WW];exact⟨9,by decide,rfl,rfl,rfl,True.intro⟩
 |0,.insert _ _ _ _ _,h=>by cases h
 |n+1,.insert _ _ _ _ l,h=>⟨10,by decide,rfl,rfl,rfl,rfl,rfl,rfl,rfl,rfl,rfl,rfl,rfl,rfl,rfl,rfl,rfl,rfl,rfl,rfl,⟨rfl,_,rfl,N8 (HY n) h⟩,True.intro⟩
 |n,.anchor _,_=>by rw[WW];exact⟨11,by decide,rfl,rfl,rfl,True.intro⟩
theorem bD3 {n:Nat}{u v:List Int}{r:Raw}(h:dI n u=some (r,v)):wf n r:=by
 rw[UG] at h
 cases e:thingIn n u with
 |none=>rw[e] at h;cases h
 |some y=>
  rw[e] at h
  unfold okT at h
  rw[Option.bind_some] at h
  by_cases c:right n y.1=true
  .rw[if_pos c] at h
   injection h with h
   injection h with h1 h2
   rw[<- h1]
   exact HY n _ (rA n _ c)
  .rw[if_neg c] at h
   cases h
noncomputable def gP.drop:Nat->gP->gP
 |0,l=>l
 |_+1,.nil=> .nil
 |i+1,.cons _ _ l=>l.drop i
theorem aOm {sub:Option (Raw->Prop)}: ∀{forms:List (String×String)}{fs:gP}{i:Nat}{f form:String},wfF sub forms fs->forms[i]?=some (f,form)-> ∃x,fs.drop i= .cons f x (fs.drop (i+1))/\wfV sub form x
 |[],.nil,_,_,_,_,h=>by simp at h
 |[],.cons _ _ _,_,_,_,h,_=>h.elim
 |(g,fm)::r,.nil,_,_,_,h,_=>h.elim
 |(g,fm)::r,.cons g' x s,0,f,form,h,e=>by
  obtain⟨h1,h2,h3⟩:=h
  simp at e
  obtain⟨rfl,rfl⟩:=e
  subst h1
  exact⟨x,by cases s <;>rfl,h2⟩
 |(g,fm)::r,.cons g' x s,i+1,f,form,h,e=>by
  obtain⟨h1,h2,h3⟩:=h
  obtain⟨y,q1,q2⟩:=aOm (i:=i) h3 (by simpa using e)
  exact⟨y,q1,q2⟩
theorem aIt {sub:Option (Raw->Prop)}: ∀{forms:List (String×String)}{fs:gP},wfF sub forms fs->fs.drop forms.length= .nil
 |[],.nil,_=>rfl
 |[],.cons _ _ _,h=>h.elim
 |_::_,.nil,h=>h.elim
 |(_,_)::r,.cons _ _ s,h=>aIt (forms:=r) (fs:=s) h.2.2
noncomputable def fD.drop:Nat->fD->fD
 |0,l=>l
 |_+1,.nil=> .nil
 |i+1,.cons _ l=>l.drop i
end M
end
section
namespace M
theorem aSf {form:String}{u:List Int}{x:FV}{r:List Int}(h:vZ form u=some (x,r)):r.length<=u.length:=by
 cases u with
 |nil=>cases h
 |cons a u=>
  rw[vZ] at h
  split at h
  .injection h with h
   injection h with h1 h2
   subst h2
   exact Nat.le_succ _
  .cases h
theorem aOn {u:List Int}{x:FV}{r:List Int}(h:qY u=some (x,r)):r.length<=u.length:=by
 cases u with
 |nil=>cases h
 |cons a u=>
  rw[qY.eq_def] at h
  simp only at h
  split at h
  .injection h with h
   injection h with h1 h2
   subst h2
   exact Nat.le_succ _
  .split at h
   .cases u with
    |nil=>cases h
    |cons b u=>
     simp only at h
     split at h
     .injection h with h
      injection h with h1 h2
      subst h2
      simp only[List.length_cons]
      lia
     .cases h
   .cases h
theorem aD1 {f:List Int->Option (Raw×List Int)}(hf: ∀u x r,f u=some (x,r)->r.length<=u.length): ∀(k:Nat)(u:List Int)(x:fD)(r:List Int),iW f k u=some (x,r)->r.length<=u.length
 |0,u,x,r,h=>by
  rw[iW] at h
  injection h with h
  injection h with h1 h2
  subst h2
  exact Nat.le_refl _
 |k+1,u,x,r,h=>by
  rw[iW] at h
  split at h
  .cases h
  .rename_i y v e
   split at h
   .cases h
   .rename_i l w' e2
    injection h with h
    injection h with h1 h2
    subst h2
    exact Nat.le_trans (aD1 hf k _ _ _ e2) (hf _ _ _ e)
theorem aOo {f:List Int->Option (Raw×List Int)}(hf: ∀u x r,f u=some (x,r)->r.length<=u.length){u:List Int}{x:fD}{r:List Int}(h:nA f u=some (x,r)):r.length<=u.length:=by
 cases u with
 |nil=>cases h
 |cons a u=>
  rw[nA] at h
  split at h
  .cases h
  .exact Nat.le_succ_of_le (aD1 hf _ _ _ _ h)
theorem aSg {f:List Int->Option (Raw×List Int)}(hf: ∀u x r,f u=some (x,r)->r.length<=u.length){u:List Int}{x:Raw}{r:List Int}(h:v7 f u=some (x,r)):r.length<=u.length:=by
 unfold v7 at h
 split at h
 .cases h
 .rename_i y v e
  split at h
  .cases h
  .injection h with h
   injection h with h1 h2
   subst h2
   exact hf _ _ _ e
theorem aUq {sub:Option (List Int->Option (Raw×List Int))}(hs: ∀f,sub=some f-> ∀u x r,f u=some (x,r)->r.length<=u.length){form:String}{u:List Int}{x:FV}{r:List Int}(h:sW sub form u=some (x,r)):r.length<=u.length:=by
 unfold sW at h
 split at h
 .split at h
  .cases h
  .rename_i f
   obtain⟨y,h1,h2⟩:=Option.map_eq_some_iff.mp h
   injection h2 with h3 h4
   subst h4
   exact aOo (hs f rfl) h1
 .split at h
  .split at h
   .cases h
   .rename_i f
    obtain⟨y,h1,h2⟩:=Option.map_eq_some_iff.mp h
    injection h2 with h3 h4
    subst h4
    exact aSg (hs f rfl) h1
  .split at h
   .exact aOn h
   .exact aSf h
theorem aD2 {sub:Option (List Int->Option (Raw×List Int))}(hs: ∀f,sub=some f-> ∀u x r,f u=some (x,r)->r.length<=u.length): ∀(fs:List (String×String))(u:List Int)(x:gP)(r:List Int),bU sub fs u=some (x,r)->r.length<=u.length
 |[],u,x,r,h=>by
  rw[bU] at h
  injection h with h
  injection h with h1 h2
  subst h2
  exact Nat.le_refl _
 |(f,form)::fs,u,x,r,h=>by
  rw[bU] at h
  split at h
  .cases h
  .rename_i y v e
   split at h
   .cases h
   .rename_i l w' e2
    injection h with h
    injection h with h1 h2
    subst h2
    exact Nat.le_trans (aD2 hs fs _ _ _ e2) (aUq hs e)
theorem aQs {sub:Option (List Int->Option (Raw×List Int))}(hs: ∀f,sub=some f-> ∀u x r,f u=some (x,r)->r.length<=u.length){u:List Int}{x:Raw}{r:List Int}(h:rdT sub u=some (x,r)):r.length<u.length:=by
 cases u with
 |nil=>cases h
 |cons a u=>
  rw[rdT] at h
  split at h
  .obtain⟨y,h1,h2⟩:=Option.map_eq_some_iff.mp h
   injection h2 with h3 h4
   subst h4
   exact Nat.lt_succ_of_le (aD2 hs _ _ _ _ h1)
  .cases h
theorem aUr: ∀(n:Nat){u:List Int}{x:Raw}{r:List Int},dI n u=some (x,r)->r.length<u.length
 |0,_,_,_,h=>aQs (fun f e=>by cases e) h
 |n+1,_,_,_,h=>aQs (fun f e u x r h=>by cases e;exact Nat.le_of_lt (aUr n h)) h
theorem aOp {f:List Int->Option (Raw×List Int)}{k:Nat}{u v:List Int}{x:Raw}(h:f u=some (x,v)):iW f (k+1) u=(iW f k v).map fun z=>(.cons x z.1,z.2):=by
 rw[iW,h]
 simp only
 cases iW f k v with
 |none=>rfl
 |some z=>rfl
theorem aOq {f:List Int->Option (Raw×List Int)}{k:Nat}{u:List Int}(h:f u=none):iW f (k+1) u=none:=by
 rw[iW,h]
end M
end
section
namespace Pr
open PySem L2
noncomputable def top (i:Nat):Stmt:=PySem.Challenge.pw_setpress_s01_answers.main.body.getD i (.Pass ⟨0,0,0,0⟩)
noncomputable abbrev UJ:Stmt:=inClass (top 2) 0
noncomputable abbrev aOr:List Str:=["self","order","part","total","badness","excess"]
noncomputable abbrev IK:List Str:=["self","order","part","total","badness","excess"]
theorem aLz:aY aOr IK (aL UJ):=by walk_at "c"
noncomputable abbrev IV:Stmt:=inClass (top 3) 0
noncomputable abbrev aIu:List Str:=["self"]
noncomputable abbrev wC:List Str:=["self"]
theorem aFg:aY aIu wC (aL IV):=by walk_at "c"
noncomputable abbrev vK:Stmt:=inClass (top 3) 1
noncomputable abbrev aBd:List Str:=["self","thing"]
noncomputable abbrev pU:List Str:=["self","thing"]
theorem ZJ:aY aBd pU (aL vK):=by walk_at "c"
noncomputable abbrev NK:Stmt:=top 4
noncomputable abbrev aM0:List Str:=["things","gives","thing"]
noncomputable abbrev yR:List Str:=["things"]
theorem IW:aY aM0 yR (aL NK):=by walk_at "c"
noncomputable abbrev zX:Stmt:=top 5
noncomputable abbrev aFh:List Str:=["sums","order"]
noncomputable abbrev uG:List Str:=["sums"]
theorem NP:aY aFh uG (aL zX):=by walk_at "c"
noncomputable abbrev NQ:Stmt:=top 6
noncomputable abbrev aM1:List Str:=["more","total"]
noncomputable abbrev yS:List Str:=["more","total"]
theorem aIv:aY aM1 yS (aL NQ):=by walk_at "c"
noncomputable abbrev NT:Stmt:=top 7
noncomputable abbrev aM2:List Str:=["sums","more","order","total"]
noncomputable abbrev yU:List Str:=["sums","more"]
theorem J0:aY aM2 yU (aL NT):=by walk_at "c"
noncomputable abbrev aD3:Stmt:=top 8
noncomputable abbrev aUs:List Str:=["sums","less","order","total"]
noncomputable abbrev WX:List Str:=["sums","less"]
theorem ZK:aY aUs WX (aL aD3):=by walk_at "c"
noncomputable abbrev UL:Stmt:=top 9
noncomputable abbrev aOs:List Str:=["gives","more"]
noncomputable abbrev J1:List Str:=["gives","more"]
theorem aM3:aY aOs J1 (aL UL):=by walk_at "c"
noncomputable abbrev rB:Stmt:=top 10
noncomputable abbrev WY:List Str:=["box","gives","sums"]
noncomputable abbrev nR:List Str:=["box","gives"]
theorem xM:aY WY nR (aL rB):=by walk_at "c"
noncomputable abbrev NZ:Stmt:=inClass (top 12) 0
noncomputable abbrev aM4:List Str:=["self","width","height","depth"]
noncomputable abbrev yV:List Str:=["self","width","height","depth"]
theorem aIw:aY aM4 yV (aL NZ):=by walk_at "c"
noncomputable abbrev O1:Stmt:=top 13
noncomputable abbrev aM5:List Str:=["side"]
noncomputable abbrev yW:List Str:=["side"]
theorem aIx:aY aM5 yW (aL O1):=by walk_at "c"
noncomputable abbrev zY:Stmt:=top 14
noncomputable abbrev aFi:List Str:=["thing","kind","repeated","shift"]
noncomputable abbrev j8:List Str:=["thing"]
theorem rC:aY aFi j8 (aL zY):=by walk_at "c"
noncomputable abbrev UW:Stmt:=top 15
noncomputable abbrev aOt:List Str:=["things","width","height","depth","thing","part"]
noncomputable abbrev qC:List Str:=["things"]
theorem jW:aY aOt qC (aL UW):=by walk_at "c"
noncomputable abbrev tK:Stmt:=top 16
noncomputable abbrev ZL:List Str:=["thing"]
noncomputable abbrev oK:List Str:=["thing"]
theorem X3:aY ZL oK (aL tK):=by walk_at "c"
noncomputable abbrev V0:Stmt:=top 17
noncomputable abbrev aOu:List Str:=["thing"]
noncomputable abbrev J2:List Str:=["thing"]
theorem aM6:aY aOu J2 (aL V0):=by walk_at "c"
noncomputable abbrev rD:Stmt:=top 18
noncomputable abbrev X4:List Str:=["thing","kind"]
noncomputable abbrev iT:List Str:=["thing"]
theorem lY:aY X4 iT (aL rD):=by walk_at "c"
noncomputable abbrev qD:Stmt:=top 19
noncomputable abbrev V1:List Str:=["thing"]
noncomputable abbrev lZ:List Str:=["thing"]
theorem S6:aY V1 lZ (aL qD):=by walk_at "c"
noncomputable abbrev o7:Stmt:=inClass (top 20) 0
noncomputable abbrev O2:List Str:=["self"]
noncomputable abbrev jX:List Str:=["self"]
theorem LC:aY O2 jX (aL o7):=by walk_at "c"
noncomputable abbrev lO:Stmt:=inClass (top 20) 1
noncomputable abbrev FP:List Str:=["self","thing"]
noncomputable abbrev iU:List Str:=["self","thing"]
theorem zZ:aY FP iU (aL lO):=by walk_at "c"
noncomputable abbrev gB:Stmt:=inClass (top 20) 2
noncomputable abbrev qT:List Str:=["self","greatest_depth","depth"]
noncomputable abbrev dO:List Str:=["self","greatest_depth"]
theorem fX:aY qT dO (aL gB):=by walk_at "c"
noncomputable abbrev BJ:Stmt:=top 21
noncomputable abbrev aFj:List Str:=["things","greatest_depth","column","thing"]
noncomputable abbrev uH:List Str:=["things","greatest_depth"]
theorem xO:aY aFj uH (aL BJ):=by walk_at "c"
noncomputable abbrev BK:Stmt:=top 22
noncomputable abbrev aFk:List Str:=["column","things","height"]
noncomputable abbrev uI:List Str:=["column","things"]
theorem xP:aY aFk uI (aL BK):=by walk_at "c"
noncomputable abbrev oZ:Stmt:=inClass (top 24) 0
noncomputable abbrev S7:List Str:=["self"]
noncomputable abbrev lF:List Str:=["self"]
theorem O3:aY S7 lF (aL oZ):=by walk_at "c"
noncomputable abbrev m5:Stmt:=inClass (top 24) 1
noncomputable abbrev J3:List Str:=["self","thing"]
noncomputable abbrev j5:List Str:=["self","thing"]
theorem FQ:aY J3 j5 (aL m5):=by walk_at "c"
noncomputable abbrev nG:Stmt:=inClass (top 24) 2
noncomputable abbrev LK:List Str:=["self","height","greatest_depth","size"]
noncomputable abbrev jL:List Str:=["self","height","greatest_depth"]
theorem rE:aY LK jL (aL nG):=by walk_at "c"
noncomputable abbrev J4:Stmt:=top 25
noncomputable abbrev aIy:List Str:=["things","height","greatest_depth","column","thing"]
noncomputable abbrev wD:List Str:=["things","height","greatest_depth"]
theorem BL:aY aIy wD (aL J4):=by walk_at "c"
noncomputable abbrev J5:Stmt:=top 34
noncomputable abbrev aIz:List Str:=["things","place","kind","cost","may_break"]
noncomputable abbrev wF:List Str:=["things","place"]
theorem pH:aY aIz wF (aL J5):=by walk_at "c"
noncomputable abbrev J6:Stmt:=top 35
noncomputable abbrev aJ0:List Str:=["badness","penalty"]
noncomputable abbrev wG:List Str:=["badness","penalty"]
theorem aFl:aY aJ0 wG (aL J6):=by walk_at "c"
noncomputable abbrev BP:Stmt:=top 36
noncomputable abbrev aFm:List Str:=["things","height","greatest_depth","column","taken","least","place","penalty","fit","cost"]
noncomputable abbrev uJ:List Str:=["things","height","greatest_depth"]
theorem fK:aY aFm uJ (aL BP):=by walk_at "c"
noncomputable abbrev rF:Stmt:=top 37
noncomputable abbrev X5:List Str:=["things","kept","place","thing"]
noncomputable abbrev nU:List Str:=["things"]
theorem m6:aY X5 nU (aL rF):=by walk_at "c"
noncomputable abbrev O4:Stmt:=top 38
noncomputable abbrev aM7:List Str:=["glue","height","lessened"]
noncomputable abbrev yX:List Str:=["glue","height"]
theorem X6:aY aM7 yX (aL O4):=by walk_at "c"
noncomputable abbrev qF:Stmt:=top 39
noncomputable abbrev V2:List Str:=["things","glue","place","thing"]
noncomputable abbrev m7:List Str:=["things","glue"]
theorem p7:aY V2 m7 (aL qF):=by walk_at "c"
noncomputable abbrev J7:Stmt:=inClass (top 40) 0
noncomputable abbrev aD4:List Str:=["self","things","height","greatest_depth","glue","place","behind","thing"]
noncomputable abbrev J8:List Str:=["self","things","height","greatest_depth","glue"]
theorem vC:aY aD4 J8 (aL J7):=by walk_at "c"
noncomputable abbrev tL:Stmt:=top 41
noncomputable abbrev ZM:List Str:=["things","moved","thing"]
noncomputable abbrev oM:List Str:=["things"]
theorem rG:aY ZM oM (aL tL):=by walk_at "c"
noncomputable abbrev wH:Stmt:=top 42
noncomputable abbrev X7:List Str:=["things","thing"]
noncomputable abbrev wI:List Str:=["things"]
theorem BR:aY X7 wI (aL wH):=by walk_at "c"
noncomputable abbrev rH:Stmt:=top 47
noncomputable abbrev O5:List Str:=["first","step","times","k"]
noncomputable abbrev rJ:List Str:=["first","step","times"]
theorem vL:aY O5 rJ (aL rH):=by walk_at "c"
noncomputable abbrev ZP:Stmt:=top 48
noncomputable abbrev aSh:List Str:=["size","place","space","first"]
noncomputable abbrev RL:List Str:=["size","place","space"]
theorem aD5:aY aSh RL (aL ZP):=by walk_at "c"
noncomputable abbrev ZQ:Stmt:=top 49
noncomputable abbrev aSi:List Str:=["size","place","space"]
noncomputable abbrev RM:List Str:=["size","place","space"]
theorem aOv:aY aSi RM (aL ZQ):=by walk_at "c"
noncomputable abbrev aD6:Stmt:=top 50
noncomputable abbrev aUt:List Str:=["size","place","space","times","gap"]
noncomputable abbrev X8:List Str:=["size","place","space"]
theorem ZR:aY aUt X8 (aL aD6):=by walk_at "c"
noncomputable abbrev BW:Stmt:=top 51
noncomputable abbrev T5:List Str:=["way","size","place","space"]
noncomputable abbrev uK:List Str:=["way","size","place","space"]
theorem aD7:aY T5 uK (aL BW):=by walk_at "c"
noncomputable abbrev tO:Stmt:=top 61
noncomputable abbrev ZS:List Str:=["things","kind","greatest_depth"]
noncomputable abbrev oN:List Str:=["things","kind","greatest_depth"]
theorem XD:aY ZS oN (aL tO):=by walk_at "c"
noncomputable abbrev nH:Stmt:=top 62
noncomputable abbrev LQ:List Str:=["size","kind","how","wanted"]
noncomputable abbrev jM:List Str:=["size","kind","how","wanted"]
theorem J9:aY LQ jM (aL nH):=by walk_at "c"
noncomputable abbrev BX:Stmt:=top 63
noncomputable abbrev aFo:List Str:=["things","kind","size","more","column"]
noncomputable abbrev uL:List Str:=["things","kind","size","more"]
theorem O6:aY aFo uL (aL BX):=by walk_at "c"
noncomputable abbrev JB:Stmt:=top 64
noncomputable abbrev aOw:List Str:=["things","kind","size","fit"]
noncomputable abbrev JC:List Str:=["things","kind","size","fit"]
theorem aM8:aY aOw JC (aL JB):=by walk_at "c"
noncomputable abbrev xQ:Stmt:=top 65
noncomputable abbrev aD8:List Str:=["more","fit"]
noncomputable abbrev rK:List Str:=["more","fit"]
theorem aBe:aY aD8 rK (aL xQ):=by walk_at "c"
noncomputable abbrev BZ:Stmt:=inClass (top 66) 0
noncomputable abbrev aFp:List Str:=["self","things","kind","how","wanted","greatest_depth","size","more","fit"]
noncomputable abbrev uM:List Str:=["self","things","kind","how","wanted","greatest_depth"]
theorem rM:aY aFp uM (aL BZ):=by walk_at "c"
noncomputable abbrev xR:Stmt:=top 71
noncomputable abbrev aD9:List Str:=["thing","direction"]
noncomputable abbrev rN:List Str:=["thing","direction"]
theorem aBf:aY aD9 rN (aL xR):=by walk_at "c"
noncomputable abbrev V3:Stmt:=top 72
noncomputable abbrev aOx:List Str:=["box","gives","length","place","found","thing","following"]
noncomputable abbrev JD:List Str:=["box"]
theorem jY:aY aOx JD (aL V3):=by walk_at "c"
noncomputable abbrev JF:Stmt:=top 73
noncomputable abbrev aJ1:List Str:=["box","x","y"]
noncomputable abbrev jZ:List Str:=["box","x","y"]
theorem aFq:aY aJ1 jZ (aL JF):=by walk_at "c"
noncomputable abbrev JG:Stmt:=top 74
noncomputable abbrev aJ2:List Str:=["box","x","y","numbers","thing","place","space"]
noncomputable abbrev rO:List Str:=["box","x","y"]
theorem pI:aY aJ2 rO (aL JG):=by walk_at "c"
noncomputable abbrev vM:Stmt:=top 75
noncomputable abbrev aBg:List Str:=["box","x","top","numbers","thing","place","space"]
noncomputable abbrev mQ:List Str:=["box","x","top"]
theorem lQ:aY aBg mQ (aL vM):=by walk_at "c"
noncomputable abbrev vN:Stmt:=top 76
noncomputable abbrev aBh:List Str:=["around","thing","x","y","kind","height","depth"]
noncomputable abbrev jQ:List Str:=["around","thing","x","y"]
theorem oO:aY aBh jQ (aL vN):=by walk_at "c"
noncomputable abbrev qG:Stmt:=top 77
noncomputable abbrev V4:List Str:=["around","thing","x","top","kind","size"]
noncomputable abbrev gY:List Str:=["around","thing","x","top"]
theorem p8:aY V4 gY (aL qG):=by walk_at "c"
noncomputable abbrev tQ:Stmt:=top 78
noncomputable abbrev ZV:List Str:=["around","thing","x","y","place","space","repeated","height","depth","numbers","copy_place"]
noncomputable abbrev lR:List Str:=["around","thing","x","y","place","space"]
theorem iV:aY ZV lR (aL tQ):=by walk_at "c"
noncomputable abbrev pA:Stmt:=top 79
noncomputable abbrev S8:List Str:=["around","thing","x","top","place","space","repeated","width","numbers","copy_place"]
noncomputable abbrev j4:List Str:=["around","thing","x","top","place","space"]
theorem iJ:aY S8 j4 (aL pA):=by walk_at "c"
noncomputable abbrev ZW:Stmt:=top 80
noncomputable abbrev aSj:List Str:=["side","running"]
noncomputable abbrev RN:List Str:=["side","running"]
theorem aOy:aY aSj RN (aL ZW):=by walk_at "c"
noncomputable abbrev O7:Stmt:=top 81
noncomputable abbrev aM9:List Str:=["x","y","size"]
noncomputable abbrev yZ:List Str:=["x","y","size"]
theorem aJ3:aY aM9 yZ (aL O7):=by walk_at "c"
noncomputable abbrev JH:Stmt:=top 82
noncomputable abbrev aJ4:List Str:=["thing","x","y"]
noncomputable abbrev wJ:List Str:=["thing","x","y"]
theorem aFr:aY aJ4 wJ (aL JH):=by walk_at "c"
noncomputable abbrev uN:Stmt:=inClass (top 89) 0
noncomputable abbrev aFs:List Str:=["self","numbers"]
noncomputable abbrev pJ:List Str:=["self","numbers"]
theorem aDa:aY aFs pJ (aL uN):=by walk_at "c"
noncomputable abbrev rP:Stmt:=inClass (top 89) 1
noncomputable abbrev aDb:List Str:=["self"]
noncomputable abbrev gG:List Str:=["self"]
theorem aBi:aY aDb gG (aL rP):=by walk_at "c"
noncomputable abbrev uO:Stmt:=inClass (top 89) 2
noncomputable abbrev aFt:List Str:=["self","number"]
noncomputable abbrev mW:List Str:=["self"]
theorem rQ:aY aFt mW (aL uO):=by walk_at "c"
noncomputable abbrev rR:Stmt:=inClass (top 89) 3
noncomputable abbrev XF:List Str:=["self","count","begin"]
noncomputable abbrev nW:List Str:=["self"]
theorem qH:aY XF nW (aL rR):=by walk_at "c"
noncomputable abbrev JK:Stmt:=top 96
noncomputable abbrev aOz:List Str:=["number","form","bounds"]
noncomputable abbrev xT:List Str:=["number","form"]
theorem aAs:aY aOz xT (aL JK):=by walk_at "c"
noncomputable abbrev O8:Stmt:=top 97
noncomputable abbrev aMa:List Str:=["numbers","reader","things"]
noncomputable abbrev z8:List Str:=["numbers"]
theorem JL:aY aMa z8 (aL O8):=by walk_at "c"
noncomputable abbrev CG:Stmt:=top 98
noncomputable abbrev aFu:List Str:=["reader","room","count","things"]
noncomputable abbrev kO:List Str:=["reader","room"]
theorem xU:aY aFu kO (aL CG):=by walk_at "c"
noncomputable abbrev gH:Stmt:=top 99
noncomputable abbrev aJ5:List Str:=["reader","room","number","kind","thing","field","form"]
noncomputable abbrev oR:List Str:=["reader","room"]
theorem mX:aY aJ5 oR (aL gH):=by walk_at "c"
noncomputable abbrev JM:Stmt:=top 100
noncomputable abbrev aJ6:List Str:=["reader","form","room"]
noncomputable abbrev rT:List Str:=["reader","form","room"]
theorem aFv:aY aJ6 rT (aL JM):=by walk_at "c"
noncomputable abbrev CJ:Stmt:=top 101
noncomputable abbrev aFw:List Str:=["reader","form","number"]
noncomputable abbrev uP:List Str:=["reader","form"]
theorem O9:aY aFw uP (aL CJ):=by walk_at "c"
noncomputable abbrev OD:Stmt:=top 102
noncomputable abbrev aMb:List Str:=["reader","told"]
noncomputable abbrev z9:List Str:=["reader"]
theorem XH:aY aMb z9 (aL OD):=by walk_at "c"
noncomputable abbrev vO:Stmt:=top 103
noncomputable abbrev aBj:List Str:=["reader","room","thing"]
noncomputable abbrev jR:List Str:=["reader","room"]
theorem FT:aY aBj jR (aL vO):=by walk_at "c"
noncomputable abbrev j9:Stmt:=top 104
noncomputable abbrev aMc:List Str:=["numbers","reader","glue","field","form"]
noncomputable abbrev zA:List Str:=["numbers"]
theorem rW:aY aMc zA (aL j9):=by walk_at "c"
noncomputable abbrev vP:Stmt:=top 105
noncomputable abbrev aBk:List Str:=["thing","field","form","inner"]
noncomputable abbrev jT:List Str:=["thing"]
theorem oU:aY aBk jT (aL vP):=by walk_at "c"
noncomputable abbrev OJ:Stmt:=top 106
noncomputable abbrev aMd:List Str:=["things","numbers","thing"]
noncomputable abbrev o8:List Str:=["things"]
theorem JN:aY aMd o8 (aL OJ):=by walk_at "c"
noncomputable abbrev JQ:Stmt:=top 107
noncomputable abbrev aJ7:List Str:=["thing","kind","numbers","field","form"]
noncomputable abbrev m8:List Str:=["thing"]
theorem pK:aY aJ7 m8 (aL JQ):=by walk_at "c"
noncomputable abbrev JR:Stmt:=top 108
noncomputable abbrev aJ8:List Str:=["value","form"]
noncomputable abbrev rY:List Str:=["value","form"]
theorem aFx:aY aJ8 rY (aL JR):=by walk_at "c"
noncomputable abbrev JT:Stmt:=top 109
noncomputable abbrev aJ9:List Str:=["things","numbers"]
noncomputable abbrev wK:List Str:=["things"]
theorem T6:aY aJ9 wK (aL JT):=by walk_at "c"
noncomputable abbrev xV:Stmt:=top 113
noncomputable abbrev aDc:List Str:=["number","choices"]
noncomputable abbrev rZ:List Str:=["number","choices"]
theorem aBl:aY aDc rZ (aL xV):=by walk_at "c"
noncomputable abbrev xX:Stmt:=top 114
noncomputable abbrev aDd:List Str:=["number"]
noncomputable abbrev sE:List Str:=["number"]
theorem aBm:aY aDd sE (aL xX):=by walk_at "c"
noncomputable abbrev CK:Stmt:=top 115
noncomputable abbrev aFy:List Str:=["number","other"]
noncomputable abbrev uQ:List Str:=["number","other"]
theorem aDe:aY aFy uQ (aL CK):=by walk_at "c"
noncomputable abbrev P0:Stmt:=top 116
noncomputable abbrev aMe:List Str:=["numbers"]
noncomputable abbrev zB:List Str:=["numbers"]
theorem aJa:aY aMe zB (aL P0):=by walk_at "c"
noncomputable abbrev zE:Stmt:=inClass (top 117) 0
noncomputable abbrev aAt:List Str:=["self","k"]
noncomputable abbrev zF:List Str:=["self"]
theorem JV:aY aAt zF (aL zE):=by walk_at "c"
noncomputable abbrev V5:Stmt:=inClass (top 117) 1
noncomputable abbrev aP0:List Str:=["self","k","t","things"]
noncomputable abbrev JW:List Str:=["self","k","t"]
theorem aAu:aY aP0 JW (aL V5):=by walk_at "c"
noncomputable abbrev PB:Stmt:=inClass (top 117) 2
noncomputable abbrev aMf:List Str:=["self","k"]
noncomputable abbrev zG:List Str:=["self","k"]
theorem aJb:aY aMf zG (aL PB):=by walk_at "c"
noncomputable abbrev PJ:Stmt:=inClass (top 117) 3
noncomputable abbrev aMg:List Str:=["self","k","column","things","size"]
noncomputable abbrev zH:List Str:=["self","k","column"]
theorem JX:aY aMg zH (aL PJ):=by walk_at "c"
noncomputable abbrev PL:Stmt:=inClass (top 117) 4
noncomputable abbrev aMh:List Str:=["self","k","j","kind","how","a","m","packed"]
noncomputable abbrev zJ:List Str:=["self","k","j","kind","how","a","m"]
theorem XJ:aY aMh zJ (aL PL):=by walk_at "c"
noncomputable abbrev CN:Stmt:=inClass (top 117) 5
noncomputable abbrev aFz:List Str:=["self","k","i","j"]
noncomputable abbrev uR:List Str:=["self","k","i","j"]
theorem aDf:aY aFz uR (aL CN):=by walk_at "c"
noncomputable abbrev PN:Stmt:=inClass (top 117) 6
noncomputable abbrev aMi:List Str:=["self","j","k"]
noncomputable abbrev zK:List Str:=["self","j","k"]
theorem aJc:aY aMi zK (aL PN):=by walk_at "c"
noncomputable abbrev JZ:Stmt:=inClass (top 117) 7
noncomputable abbrev aJd:List Str:=["self","k","i","s","box","things"]
noncomputable abbrev wL:List Str:=["self","k","i","s"]
theorem CP:aY aJd wL (aL JZ):=by walk_at "c"
noncomputable abbrev V6:Stmt:=inClass (top 117) 8
noncomputable abbrev aP1:List Str:=["self","k","i","v","m","things","fit"]
noncomputable abbrev K4:List Str:=["self","k","i","v","m"]
theorem PX:aY aP1 K4 (aL V6):=by walk_at "c"
noncomputable abbrev CQ:Stmt:=inClass (top 117) 9
noncomputable abbrev aG0:List Str:=["self","k","i","x","y"]
noncomputable abbrev uT:List Str:=["self","k","i","x","y"]
theorem aDg:aY aG0 uT (aL CQ):=by walk_at "c"
noncomputable abbrev V7:Stmt:=inClass (top 117) 10
noncomputable abbrev aP2:List Str:=["self","k","j","m","v","d","g","cut"]
noncomputable abbrev K5:List Str:=["self","k","j","m","v","d","g"]
theorem aAv:aY aP2 K5 (aL V7):=by walk_at "c"
noncomputable abbrev Q0:Stmt:=inClass (top 117) 11
noncomputable abbrev aMj:List Str:=["self","k","j","things"]
noncomputable abbrev zL:List Str:=["self","k","j"]
theorem XM:aY aMj zL (aL Q0):=by walk_at "c"
noncomputable abbrev Q5:Stmt:=inClass (top 117) 12
noncomputable abbrev aMk:List Str:=["self","k","things"]
noncomputable abbrev zM:List Str:=["self","k","things"]
theorem aJe:aY aMk zM (aL Q5):=by walk_at "c"
noncomputable abbrev tR:Stmt:=inClass (top 117) 13
noncomputable abbrev ZX:List Str:=["self","k","things","j","others"]
noncomputable abbrev oW:List Str:=["self","k","things","j","others"]
theorem XQ:aY ZX oW (aL tR):=by walk_at "c"
noncomputable abbrev CT:Stmt:=inClass (top 117) 14
noncomputable abbrev aG1:List Str:=["self","k","i","things"]
noncomputable abbrev uU:List Str:=["self","k","i"]
theorem Q6:aY aG1 uU (aL CT):=by walk_at "c"
noncomputable abbrev zN:Stmt:=inClass (top 120) 0
noncomputable abbrev aAw:List Str:=["self","reader","form","k"]
noncomputable abbrev zO:List Str:=["self","reader"]
theorem oX:aY aAw zO (aL zN):=by walk_at "c"
noncomputable abbrev aA0:Stmt:=top 121
noncomputable abbrev aSk:List Str:=["desk","call","whole"]
noncomputable abbrev RP:List Str:=["desk","call"]
theorem aDh:aY aSk RP (aL aA0):=by walk_at "c"
noncomputable abbrev aDi:Stmt:=top 122
noncomputable abbrev aUu:List Str:=["desk","call"]
noncomputable abbrev XR:List Str:=["desk","call"]
theorem aSl:aY aUu XR (aL aDi):=by walk_at "c"
noncomputable abbrev aA1:Stmt:=top 123
noncomputable abbrev aSm:List Str:=["calls","reader","desk","numbers","answered"]
noncomputable abbrev RQ:List Str:=["calls"]
theorem xY:aY aSm RQ (aL aA1):=by walk_at "c"
end Pr
end
section
namespace Pr
open PySem PySem.Spec PyProof.Rows L2
structure aP3 (K:PySem.W.Frag)(w:World)(a:Addr)(x:Str)(u:Value):Prop where
 ex: ∃es n,K.lookup a=some ⟨.type "dict",none,.dict es n,#[]⟩/\PySem.W.KeysLit w.params es.toList
 at_:PySem.W.nsIn K a x=some (some u)
noncomputable def aZf (K:PySem.W.Frag)(w:World)(a:Addr)(ty:TE):TE:=fun σ H Q=>ty σ H fun y H1=> ∃x u v,y= .str x/\aP3 K w a x u/\RelV v u/\Q v H1
theorem XS {X:Cx}{a:Addr}{name:Str}{p pos:Pos}{i:Expr}{ty:TE}(hg:Gl X name)(hm:X.mg name=some (.ref a))(hi:PE X i ty)(hs:aX3 i)(hd:(name==("__debug__":Str))=false:=by decide):
  PE X (.Subscript (.Name name p) i pos) (aZf X.K X.w a ty):=by
 intro pins s σ H Q I h
 refine aIj PySem.F.slot_dict_getitem.lookup hs (yL I hg hm (thn (hi pins s σ H _ I h) fun iv s2⟨y,H2,I2,ry,x,u,v,ey,tb,rv,q⟩=>?_) hd)
 subst ey
 obtain⟨t,rfl⟩:=(show ∃t,iv=Value.str x t from ry)
 obtain⟨es,n,hl,hk⟩:=tb.ex
 have hmp:=PySem.W.mapOf_K (prog:=X.prog) (w:=X.w) I2.kIn hl hk
 exact⟨hmp.typeIs,wpAny_getItem_of (strKind_is X.prog X.w x t) hmp (PySem.W.find_K hl tb.at_) ⟨v,H2,I2.tok _,rv,q⟩⟩
noncomputable def Tup (K:PySem.W.Frag)(a:Addr)(xs:List V):Prop:= ∃(o:Obj)(its:Array Value)(n:Nat),K.lookup a=some o/\o.cls= .type "tuple"/\o.data= .seq its n/\its.size<=sizeLine/\Vals xs its.toList
theorem Tup.sq {K:PySem.W.Frag}{a:Addr}{xs:List V}(h:Tup K a xs)(H:Hp):SqT K H a xs:= .inr h
noncomputable def Sb (p:Addr)(H H':Hp):Prop:= ∀b o,H b=some o->b≠p->H' b=some o
theorem Sb.refl (p:Addr)(H:Hp):Sb p H H:=fun _ _ h _=>h
theorem Sb.trans {p:Addr}{H H1 H2:Hp}(a:Sb p H H1)(b:Sb p H1 H2):Sb p H H2:=fun c o h n=>b c o (a c o h n) n
theorem Sb.upd {p:Addr}{H:Hp}{o:HO}:Sb p H (upd H p o):=fun b u h n=>by rw[aM n];exact h
theorem Sb.same {p:Addr}{H H':Hp}(h:Same H H'):Sb p H H':=fun b o e _=>h b o e
theorem aU {H:Hp}{p:Addr}(h:H p=none)(o:HO):Same H (L2.upd H p o):=fun b u q=>by rw[aM (aX q h)];exact q
theorem Sb.new {p q:Addr}{H H':Hp}(s:Sb p H H')(h:H' q=none)(o:HO):Sb p H (L2.upd H' q o):=s.trans (.same (aU h o))
structure RdC (K:PySem.W.Frag)(mg:Str->Option Value)(C W:Addr):Prop where
 c:Cls K C
 nN:cW K C "numbers"
 nP:cW K C "place"
 mgC:mg "Reader"=some (.ref C)
 xW:XC K mg "WrongList" W
 ml:mg "len"=none
noncomputable def rdf (a:Addr)(i:Nat):List (Str×V):=[("numbers",.ref a),("place",.int i)]
noncomputable def SqM (K:PySem.W.Frag)(H:Hp)(a:Addr×Bool)(xs:List V):Prop:=
 (a.2=true/\L2.Rd H a.1 (.lst xs))\/(a.2=false/\ ∃(o:Obj)(its:Array Value)(n:Nat),K.lookup a.1=some o/\o.cls= .type "list"/\o.dict=none/\o.data= .seq its n/\its.size<=sizeLine/\Vals xs its.toList)
theorem SqM.sq {K:PySem.W.Frag}{H:Hp}{a:Addr×Bool}{xs:List V}(h:SqM K H a xs):SqL K H a.1 xs:=h.elim (fun z=> .inl z.2) fun z=> .inr z.2
theorem SqM.of {K:PySem.W.Frag}{H:Hp}{a:Addr}{xs:List V}(h:SqL K H a xs): ∃m,SqM K H (a,m) xs:=h.elim (fun z=>⟨true,.inl ⟨rfl,z⟩⟩) fun z=>⟨false,.inr ⟨rfl,z⟩⟩
theorem V8 {K:PySem.W.Frag}{p:Addr}{H H':Hp}{a:Addr×Bool}{xs:List V}(h:SqM K H a xs)(s:Sb p H H')(hp: ∀u,H p=some u-> ¬(u= .lst xs\/ ∃o,u= .frz o (.lst xs))):SqM K H' a xs:=by
 rcases h with ⟨m,h|⟨o,h⟩⟩|h
 .exact .inl ⟨m,.inl (s _ _ h fun z=>by subst z;exact hp _ h (.inl rfl))⟩
 .exact .inl ⟨m,.inr ⟨o,s _ _ h fun z=>by subst z;exact hp _ h (.inr ⟨o,rfl⟩)⟩⟩
 .exact .inr h
theorem SqM.same {K:PySem.W.Frag}{H H':Hp}{a:Addr×Bool}{xs:List V}(h:SqM K H a xs)(s:Same H H'):SqM K H' a xs:=by
 rcases h with ⟨m,h|⟨o,h⟩⟩|h
 .exact .inl ⟨m,.inl (s _ _ h)⟩
 .exact .inl ⟨m,.inr ⟨o,s _ _ h⟩⟩
 .exact .inr h
noncomputable def gQ (K:PySem.W.Frag)(C:Addr)(a:Addr×Bool)(H:Hp)(p:Addr)(u:List Int):Prop:= ∃(dx:Addr)(ns:List Int)(i:Nat),H p=some (.ins C dx (rdf a.1 i))/\SqM K H a (ns.map V.int)/\ns.drop i=u/\i<=ns.length/\ns.length<=100000
theorem gQ.sq {K:PySem.W.Frag}{C:Addr}{H H':Hp}{p dx:Addr}{a:Addr×Bool}{ns:List Int}{i:Nat}(hp:H p=some (.ins C dx (rdf a.1 i)))(h:SqM K H a (ns.map V.int))(s:Sb p H H'):SqM K H' a (ns.map V.int):=
 V8 h s fun u e z=>by
  rw[hp] at e
  cases e
  rcases z with z|⟨_,z⟩ <;>cases z
noncomputable def aJf (K:PySem.W.Frag)(C:Addr):Sp:=fun vs H Q _=> ∃(p dx:Addr)(a:Addr×Bool)(ns:List Int),vs=[.ref p,.ref a.1]/\H p=some (.ins C dx [])/\SqM K H a (ns.map V.int)/\ns.length<=100000/\ ∀H':Hp,gQ K C a H' p ns->Sb p H H'->Q .non H'
noncomputable def Y0 (K:PySem.W.Frag)(C:Addr):Sp:=fun vs H Q _=> ∃(p:Addr)(a:Addr×Bool)(u:List Int),vs=[.ref p]/\gQ K C a H p u/\Q (.bl (decide (u=[]))) H
noncomputable def aP4 (K:PySem.W.Frag)(C W:Addr):Sp:=fun vs H Q E=> ∃(p:Addr)(a:Addr×Bool)(u:List Int),vs=[.ref p]/\gQ K C a H p u/\
 match u with
 |[]=>E (.ref W) none H
 |x::r=> ∀H':Hp,gQ K C a H' p r->Sb p H H'->Q (.int x) H'
section
variable{P:Program}{w:World}{K:PySem.W.Frag}{mg:Str->Option Value}{base:Heap}{C W f:Addr}{fd:FuncData}
theorem aUv (F:Fun K "__init__" "Reader.__init__" uN f fd)(T:RdC K mg C W):bJ P w K mg base CX0 1 f fd pJ (aJf K C):=by
 refine F.ok aDa (fun vs H Q E h=>?_) (fun cdv A outer s H vs Q E hr h=>?_)
 .obtain⟨p,dx,a,ns,rfl,_⟩:=h
  rfl
 .obtain⟨p,dx,a,ns,rfl,hp,hS,hl,k⟩:=h
  refine⟨_,aB (fW (pv 0) (pv 1) rfl) (aG (fW (pv 0) aQ rfl)),?_⟩
  try dsimp only[aFc]
  refine⟨_,rfl,_,rfl,p,C,dx,[],rfl,hp,T.c,T.nN,(by show 0<1000;decide),?_⟩
  refine⟨_,rfl,p,C,dx,_,rfl,aH,T.c,T.nP,(by show 1<1000;decide),?_⟩
  have e:upd (upd H p (.ins C dx (lX "numbers" (.ref a.1) []))) p (.ins C dx (lX "place" (.int 0) (lX "numbers" (.ref a.1) [])))=upd H p (.ins C dx (rdf a.1 0)):=by
   rw[gD]
   rfl
  have sb:Sb p H (upd H p (.ins C dx (rdf a.1 0))):=Sb.upd
  refine k _ ?_ (by rw[e];exact sb)
  rw[e]
  refine⟨dx,ns,0,aH,V8 hS sb fun u q z=>?_,rfl,Nat.zero_le _,hl⟩
  rw[hp] at q
  cases q
  rcases z with z|⟨_,z⟩ <;>cases z
theorem Y4 (F:Fun K "ended" "Reader.ended" rP f fd)(T:RdC K mg C W):bJ P w K mg base CX0 1 f fd gG (Y0 K C):=by
 refine F.ok aBi (fun vs H Q E h=>?_) (fun cdv A outer s H vs Q E hr h=>?_)
 .obtain⟨p,a,u,rfl,_⟩:=h
  rfl
 .obtain⟨p,a,u,rfl,⟨dx,ns,i,hp,hS,hu,hi,hl⟩,k⟩:=h
  refine⟨_,aG (aP (HJ aU4 (bG (pv 0) rfl) (dF cU rfl T.ml PySem.boot_len (aA (bG (pv 0) rfl) aD)) (bD _))),?_⟩
  try dsimp only[aFc]
  refine⟨_,rfl,p,C,dx,_,_,rfl,hp,T.c,T.nP,rfl,_,rfl,p,C,dx,_,_,rfl,hp,T.c,T.nN,rfl,a.1,_,rfl,.inl hS.sq,_,_,rfl,rfl,?_⟩
  have e:decide ((i:Int)>=(((ns.map V.int).length:Nat):Int))=decide (u=[]):=by
   rw[List.length_map,<- hu]
   refine decide_eq_decide.mpr ?_
   rw[List.drop_eq_nil_iff]
   lia
  rw[<- e] at k
  exact k
theorem aXe {fE:Addr}{fdE:FuncData}(F:Fun K "take" "Reader.take" uO f fd)(T:RdC K mg C W)(GE:bJ P w K mg base CX0 1 fE fdE gG (Y0 K C))(bE:Binds K fdE gG [])(mE:Meth K C "ended" fE):
  bJ P w K mg base (CXE P w) 2 f fd mW (aP4 K C W):=by
 refine F.okE rQ (fun vs H Q E h=>?_) (fun cdv A outer s H vs Q E hr h=>?_)
 .obtain⟨p,a,u,rfl,_⟩:=h
  rfl
 .obtain⟨p,a,u,rfl,hR,k⟩:=h
  refine⟨_,aB (bR (nZ (lN (pv 0) T.c mE GE.noE hr bE .nil aC)) (aG (iH iR rfl rfl rfl T.xW)) bC)
   (aB (bF (i:=1) rQ.nd rfl (Or.inl rfl) (cJ bM (bG (pv 0) rfl) (bG (pv 0) rfl) (fun _ _=>rfl)))
   (aB (R8 (pv 0) aQ aIb) (aG (aP (pv 1))))),?_⟩
  try dsimp only[aFc]
  obtain⟨dx,ns,i,hp,hS,hu,hi,hl⟩:=id hR
  refine⟨_,rfl,p,dx,_,rfl,hp,rfl,p,a,u,rfl,hR,_,rfl,?_⟩
  refine eN (fun c=>?_) (fun c=>?_)
  .have e:u=[]:=of_decide_eq_true c
   subst e
   exact k
  .have e:u≠[]:=of_decide_eq_false (Bool.eq_false_iff.mpr c)
   match u,hu,k,e with
   |[],_,_,e=>exact absurd rfl e
   |x::r,hu,k,_=>
    have hlt:i<ns.length:=by
     rcases Nat.lt_or_ge i ns.length with z|z
     .exact z
     .rw[List.drop_eq_nil_of_le z] at hu
      cases hu
    have hx:ns[i]?=some x/\ns.drop (i+1)=r:=by
     rw[List.drop_eq_getElem_cons hlt] at hu
     injection hu with h1 h2
     exact⟨by rw[List.getElem?_eq_getElem hlt,h1],h2⟩
    refine⟨_,rfl,p,C,dx,_,_,rfl,hp,T.c,T.nN,rfl,_,rfl,p,C,dx,_,_,rfl,hp,T.c,T.nP,rfl,a.1,_,_,_,rfl,rfl,hS.sq,bH (v:= .int x) (by rw[List.getElem?_map,hx.1];rfl),?_⟩
    refine⟨_,rfl,p,C,dx,_,_,rfl,hp,T.c,T.nP,rfl,_,_,rfl,rfl,dx,_,hp,(by show 2<1000;decide),?_⟩
    refine⟨_,rfl,?_⟩
    have e:lX "place" (V.int ((i:Int)+1)) (rdf a.1 i)=rdf a.1 (i+1):=rfl
    have sb:Sb p H (upd H p (.ins C dx (rdf a.1 (i+1)))):=Sb.upd
    exact k _ ⟨dx,ns,i+1,aH,gQ.sq hp hS sb,hx.2,hlt,hl⟩ sb
end
end Pr
end
section
namespace Pr
open PySem PySem.Spec PyProof.Rows L2
mutual
inductive eX (R:Addr->Prop)(H:Hp):V->M.Raw->Prop
 |mk {a:Addr} {kvs:List (Key×V)} {k:String} {fs:M.gP}:R a->H a=some (.dK ((Sum.inr "kind",.str (Str.ofString k))::kvs))->bV R H kvs fs->eX R H (.ref a) (.mk k fs)
inductive bV (R:Addr->Prop) (H:Hp):List (Key×V)->M.gP->Prop
 |nil:bV R H [] .nil
 |cons {f:String} {v:V} {x:M.FV} {kvs:List (Key×V)} {r:M.gP}:gZ R H v x->bV R H kvs r->bV R H ((Sum.inr (Str.ofString f),v)::kvs) (.cons f x r)
inductive gZ (R:Addr->Prop) (H:Hp):V->M.FV->Prop
 |int {i:Int}:gZ R H (.int i) (.int i)
 |sd0:gZ R H .non (.sd none)
 |sd1 {i:Int}:gZ R H (.int i) (.sd (some i))
 |lst {a:Addr} {vs:List V} {l:M.fD}:R a->H a=some (.lst vs)->d7 R H vs l->gZ R H (.ref a) (.lst l)
 |thing {v:V} {r:M.Raw}:eX R H v r->gZ R H v (.thing r)
inductive d7 (R:Addr->Prop) (H:Hp):List V->M.fD->Prop
 |nil:d7 R H [] .nil
 |cons {v:V} {r:M.Raw} {vs:List V} {l:M.fD}:eX R H v r->d7 R H vs l->d7 R H (v::vs) (.cons r l)
end
section
variable{R R':Addr->Prop}{H H':Hp}(k: ∀b o,R b->H b=some o->R' b/\H' b=some o)
include k
mutual
theorem eX.imp: ∀{v:V}{r:M.Raw},eX R H v r->eX R' H' v r
 |_,_,.mk hr h hf=> .mk (k _ _ hr h).1 (k _ _ hr h).2 (bV.imp hf)
theorem bV.imp: ∀{kvs:List (Key×V)}{fs:M.gP},bV R H kvs fs->bV R' H' kvs fs
 |_,_,.nil=> .nil
 |_,_,.cons h t=> .cons (gZ.imp h) (bV.imp t)
theorem gZ.imp: ∀{v:V}{x:M.FV},gZ R H v x->gZ R' H' v x
 |_,_,.int=> .int
 |_,_,.sd0=> .sd0
 |_,_,.sd1=> .sd1
 |_,_,.lst hr h t=> .lst (k _ _ hr h).1 (k _ _ hr h).2 (d7.imp t)
 |_,_,.thing h=> .thing (eX.imp h)
theorem d7.imp: ∀{vs:List V}{l:M.fD},d7 R H vs l->d7 R' H' vs l
 |_,_,.nil=> .nil
 |_,_,.cons h t=> .cons (eX.imp h) (d7.imp t)
end
end
noncomputable def Fr (H:Hp)(b:Addr):Prop:=H b=none
theorem d7.snoc {R:Addr->Prop}{H:Hp}{v:V}{x:M.Raw}(h:eX R H v x): ∀{vs:List V}{l:M.fD},d7 R H vs l->d7 R H (vs++[v]) (M.fD.snoc l x)
 |_,_,.nil=> .cons h .nil
 |_,_,.cons hy t=> .cons hy (d7.snoc h t)
theorem d7.len {R:Addr->Prop}{H:Hp}: ∀{vs:List V}{l:M.fD},d7 R H vs l->vs.length=l.length
 |_,_,.nil=>rfl
 |_,_,.cons _ t=>by rw[List.length_cons,d7.len t];rfl
structure Tb (K:PySem.W.Frag)(w:World)(mg:Str->Option Value)(aR aF aK:Addr):Prop where
 mR:mg "RANGES"=some (.ref aR)
 rng: ∀(form:String)(lo hi:Int),M.nO form=some (lo,hi)-> ∃t,aP3 K w aR (Str.ofString form) (.ref t)/\Tup K t [.int lo,.int hi]
 mF:mg "FORMS"=some (.ref aF)
 frm: ∀i,i<12-> ∃(t:Addr)(bs:List Addr),aP3 K w aF (Str.ofString (M.kindName i)) (.ref t)/\Tup K t (bs.map V.ref)/\Paired (fun(b:Addr)(x:String×String)=>Tup K b [.str (Str.ofString x.1),.str (Str.ofString x.2)]) bs (M.bW i)
 mK:mg "KINDS"=some (.ref aK)
 knd:Tup K aK ((List.range 12).map fun i=> .str (Str.ofString (M.kindName i)))
noncomputable def aH5:Sp:=fun vs H Q _=> ∃(x:Int)(form:String),vs=[.int x,.str (Str.ofString form)]/\(M.nO form).isSome=true/\Q (.bl (M.inR form x)) H
noncomputable def XW (W p:Addr)(H:Hp)(E:XK):Prop:= ∀H',Sb p H H'->E (.ref W) none H'
theorem XW.on {W p:Addr}{H H1:Hp}{E:XK}(h:XW W p H E)(s:Sb p H H1):XW W p H1 E:=fun H' s'=>h H' (s.trans s')
section
variable{P:Program}{w:World}{K:PySem.W.Frag}{mg:Str->Option Value}{base:Heap}{C W f aR aF aK:Addr}{fd:FuncData}
theorem aMl (F:Fun K "in_range" "in_range" JK f fd)(T:Tb K w mg aR aF aK):bJ P w K mg base CX0 1 f fd xT aH5:=by
 refine F.ok aAs (fun vs H Q E h=>?_) (fun cdv A outer s H vs Q E hr h=>?_)
 .obtain⟨x,form,rfl,_⟩:=h
  rfl
 .obtain⟨x,form,rfl,hs,k⟩:=h
  obtain⟨⟨lo,hi⟩,hlh⟩:=Option.isSome_iff_exists.mp hs
  obtain⟨t,tb,tp⟩:=T.rng form lo hi hlh
  refine⟨_,aB (bF (i:=2) aAs.nd rfl (Or.inl rfl) (XS rfl T.mR (pv 1) (fun _ _=>rfl)))
   (aG (aP (aU5 aCm aCm (cJ Z8 (pv 2) aQ (fun _ _=>rfl)) (pv 0) (cJ Z8 (pv 2) aQ (fun _ _=>rfl))))),?_⟩
  try dsimp only[aFc]
  refine⟨_,rfl,_,_,.ref t,rfl,tb,rfl,?_⟩
  refine⟨_,rfl,t,_,_,_,rfl,rfl,tp.sq H,bH (j:=0) rfl,_,rfl,_,_,rfl,rfl,_,rfl,?_⟩
  have e:M.inR form x=(decide (lo<=x)&&decide (x<=hi)):=by unfold M.inR;rw[hlh]
  rw[e] at k
  refine eN (fun c=>?_) (fun c=>?_)
  .refine⟨_,rfl,t,_,_,_,rfl,rfl,tp.sq H,bH (j:=1) rfl,_,_,rfl,rfl,?_⟩
   rw[c,Bool.true_and] at k
   exact k
  .rw[Bool.eq_false_iff.mpr c,Bool.false_and] at k
   exact k
end
end Pr
end
section
namespace Pr
open PySem PySem.Spec PyProof.Rows L2
theorem aJg {s t:String}:Str.ofString s=Str.ofString t↔s=t:=by
 refine⟨fun h=>?_,fun h=>by rw[h]⟩
 rw[Str.ofString_eq_toList,Str.ofString_eq_toList] at h
 have h2:s.toList.map Char.toNat=t.toList.map Char.toNat:=by
  have h3:=congrArg Str.cps h
  simpa using h3
 have inj: ∀(a b:List Char),a.map Char.toNat=b.map Char.toNat->a=b:=by
  intro a
  induction a with
  |nil=>intro b h;cases b with|nil=>rfl|cons _ _=>cases h
  |cons c a ih=>
   intro b h
   cases b with
   |nil=>cases h
   |cons d b=>
    rw[List.map_cons,List.map_cons] at h
    injection h with h1 h2
    rw[Char.toNat_inj.mp h1,ih b h2]
 exact String.toList_inj.mp (inj _ _ h2)
theorem pW (s t:String):decide (V.str (Str.ofString s)=V.str (Str.ofString t))=decide (s=t):=by
 refine decide_eq_decide.mpr ⟨fun h=>?_,fun h=>by rw[h]⟩
 injection h with h
 exact aJg.mp h
noncomputable def sG (form:String):Prop:=form="list"\/form="thing"\/form="side"\/(M.nO form).isSome=true
theorem gQ.ins {K:PySem.W.Frag}{C p:Addr}{a:Addr×Bool}{H:Hp}{u:List Int}(h:gQ K C a H p u): ∃dx i,H p=some (.ins C dx (rdf a.1 i)):=let ⟨dx,_,i,e,_⟩:=h;⟨dx,i,e⟩
end Pr
end
section
namespace Pr
open PySem PySem.Spec PyProof.Rows L2
section
variable{prog:Program}{w:World}{A:PySem.Around}{E:Value->Shared->Prop}{s:Shared}
theorem range_list {β:Type}{a b:Nat}{c:β}{f:Nat->β->Sem (ForInStep β)}{Q:β->Shared->Prop}(h:wpAny (model prog w) A (forIn (List.range' a (b-a)) c f) Q E s):wpAny (model prog w) A (forIn [a:b] c f) Q E s:=by
 rw[Std.Legacy.Range.forIn_eq_forIn_range']
 have hsz:([a:b]:Std.Legacy.Range).size=b-a:=by simp[Std.Legacy.Range.size]
 show wpAny _ _ (forIn (List.range' a ([a:b]:Std.Legacy.Range).size 1) c f) _ _ _
 rw[hsz]
 exact h
theorem aA2 {t:Addr}{items:Array Value}{x:Value}{P:Fin->Shared->Prop}(e:Value->Bool)(j:Nat)(ht:IsTup s.heap t items)(he: ∀y,y∈items->SeqAt.EqAt A s y x (e y))(hj:j<items.size)
  (hit:e items[j]=true) (hno: ∀m(hm:m<items.size),m<j->e items[m]=false) (h:P (.done (.ret (.int j s.toks))) {s with toks:=s.toks+1}):wpAny (model prog w) A (Builtin.«tuple.index» ⟨[.ref t,x],[]⟩) P E s:=by
 show wpAny _ _ (Builtin.Tuple.tupleItemsOf (.ref t) >>= _) _ _ s
 refine wpAny_bind (tupleItemsOf_ ht ?_)
 refine wpAny_bind (wpAny_pure ?_)
 refine wpAny_bind (wpAny_pure ?_)
 refine wpAny_bind (range_list ?_)
 rw[Nat.min_self,Nat.sub_zero]
 refine wpAny_forIn_list _ (fun rest b s'=>b.1=none/\s'=s/\ ∃i,i<=j/\rest=List.range' i (items.size-i)) _ ?_ ?_ _ _ ⟨rfl,rfl,0,Nat.zero_le _,rfl⟩
 .rintro i rest b s' ⟨hb,rfl,i',hi',hr⟩
  obtain⟨n,hn⟩: ∃n,items.size-i'=n+1:=⟨items.size-i'-1,by lia⟩
  rw[hn,List.range'_succ] at hr
  injection hr with h1 h2
  subst h1
  have hlt:i<items.size:=by lia
  have e1:items[i]?=some items[i]:=by simp[hlt]
  simp only[e1]
  refine wpAny_bind (he _ (Array.getElem_mem hlt) prog w _ _ ?_)
  by_cases hij:i=j
  .subst hij
   rw[hit,if_pos rfl]
   refine wpAny_bind ?_
   unfold retInt
   wp_walk
   exact h
  .rw[hno i hlt (by lia),if_neg (by decide)]
   refine wpAny_pure ⟨rfl,rfl,i+1,by lia,?_⟩
   rw[h2]
   congr 1
   lia
 .rintro⟨b1,b2⟩ s' ⟨hb,rfl,i',hi',hr⟩
  obtain⟨n,hn⟩: ∃n,items.size-i'=n+1:=⟨items.size-i'-1,by lia⟩
  rw[hn,List.range'_succ] at hr
  cases hr
end
section
variable{X:Cx}
noncomputable def aQt (K:PySem.W.Frag):V->List V->Hp->VK->Prop:=fun x xs H Q=> ∃(a:Addr)(ys:List V)(y:V)(j:Nat)(z:V),x=V.ref a/\xs=[y]/\SqT K H a ys/\uY y=true/\ys.all uY=true/\ys[j]?=some z/\eqV z y=true/\
 (∀(m:Nat)(z':V),m<j->ys[m]?=some z'->eqV z' y=false)/\Q (.int (j:Nat)) H
theorem aSn:MtR X "tuple.index" (aQt X.K):=by
 intro pins s σ H x xs v us Q I rx rxs h
 obtain⟨a,ys,y,j,z,rfl,rfl,hs,fy,fys,hz,hzj,hno,q⟩:=h
 cases rx
 cases rxs with
 |cons ry rt=>
  rename_i uy ut
  cases rt
  obtain⟨its,rv,ht,hlen⟩:=I.tuple hs
  obtain⟨u,hu,ru⟩:=rv.get hz
  obtain⟨hjl,hje⟩:=List.getElem?_eq_some_iff.mp hu
  have hvl:=rv.length
  have hj:j<its.toArray.size:=by simpa using hjl
  refine wpAny_call_entry PySem.F.slot_tuple_index ht.typeIs PySem.F.entry_tuple_index (aA2 (eqU y) j ht (fun u' hu'=>uZ ry fy rv fys u' (by simpa using hu')) hj ?_ ?_ ⟨_,rfl,?_⟩) (PySem.F.args_tuple_index_2 _ _)
  .have e1:its.toArray[j]=u:=by simpa using hje
   rw[e1,aIe ru (aQe fys hz)]
   exact hzj
  .intro m hm hmj
   have hml:m<its.length:=by simpa using hm
   have hmy:m<ys.length:=by lia
   have hy':ys[m]?=some ys[m]:=List.getElem?_eq_getElem hmy
   obtain⟨u2,hu2,ru2⟩:=rv.get hy'
   obtain⟨_,hme⟩:=List.getElem?_eq_some_iff.mp hu2
   have e1:its.toArray[m]=u2:=by simpa using hme
   rw[e1,aIe ru2 (aQe fys hy')]
   exact hno m _ hmj hy'
  .exact⟨.int (j:Nat),H,I.tok _,⟨_,rfl⟩,q⟩
theorem aDj:aCl X (.type "dict") (fun xs H Q=> ∃(a:Addr)(kvs:List (Key×V)),xs=[.ref a]/\H a=some (.dK kvs)/\ ∀p,H p=none->Q (.ref p) (upd H p (.dK kvs))):=by
 intro pins s σ H xs us Q I r h
 obtain⟨a,kvs,rfl,ha,q⟩:=h
 rw[Vals.bCv r]
 obtain⟨z,y,vs,kv,hd⟩:=I.hok a _ ha
 refine kt_call_dict (knd:=lD X.prog X.w) y hd (by have:=Paired.length kv;lia) fun h' hnew sb=>?_
 refine⟨.ref s.heap.objs.size,upd H s.heap.objs.size (.dK kvs),I.laid (t':=s.toks) (fun b u e=>?_) (Nat.le_refl _) ⟨z,?_,vs,kv,hnew⟩,rfl,q _ (I.hok.fresh (Nat.le_refl _))⟩
 .exact(sb.2 b (Nat.ne_of_lt (Heap.lt_size e))).trans (Heap.get?_push_of_some _ e)
 .have:=I.big
  exact beq_eq_false_iff_ne.mpr (Nat.ne_of_gt this)
theorem aSo (hh:X.A.handled=none):aCl X (.builtin "any") (fun xs H Q=> ∃(a:Addr)(bs:List Bool),xs=[.ref a]/\H a=some (.lst (bs.map V.bl))/\Q (.bl (bs.any id)) H):=by
 intro pins s σ H xs us Q I r h
 obtain⟨a,bs,rfl,ha,q⟩:=h
 rw[Vals.bCv r]
 obtain⟨its,rv,p,hz⟩:=I.list (SqL.of ha)
 refine call_any_walk (wpAny_pyIter_list p.isList ?_)
 have hlt:a<s.heap.objs.size:=by
  obtain⟨o,n,e,_⟩:=p
  exact Heap.lt_size e
 have hl:=rv.length
 rw[List.length_map] at hl
 refine⟨_,_,_,_,_,_,fun i=>bs.getD i false,rfl,Walks.list (A:=X.A.in1) hh s.heap.objs.size a (Nat.ne_of_lt hlt) its.toArray,⟨⟨_,Heap.get?_push_size _ rfl,rfl,rfl⟩,p.isList.at fun o e=>Heap.get?_push_of_some _ e⟩,?_,?_⟩
 .intro i v s1 Q1 E1 hv hq
  have hv:its[i]?=some v:=by simpa using hv
  have hi:i<bs.length:=by
   have:=(List.getElem?_eq_some_iff.mp hv).1
   lia
  obtain⟨u,hu,ru⟩:=rv.get (i:=i) (x:=V.bl bs[i]) (by rw[List.getElem?_map,List.getElem?_eq_getElem hi];rfl)
  rw[hv] at hu
  cases hu
  have e:v=Value.bool bs[i]:=ru
  subst e
  have e2:bs.getD i false=bs[i]:=by simp[List.getD,hi]
  have hq:Q1 (bs.getD i false) s1:=hq
  rw[e2] at hq
  exact wpAny_truthy_bool hq
 .intro h' tk hk
  have e:(List.range its.toArray.size).any (fun i=>bs.getD i false)=bs.any id:=by
   rw[List.size_toArray,<- hl]
   clear hl rv
   rw[Bool.eq_iff_iff,List.any_eq_true,List.any_eq_true]
   constructor
   .rintro⟨i,h1,h2⟩
    have hi:i<bs.length:=by simpa using h1
    exact⟨bs[i],List.getElem_mem hi,by simpa [List.getD,hi] using h2⟩
   .rintro⟨b,h1,h2⟩
    obtain⟨i,hi,e⟩:=List.mem_iff_getElem.mp h1
    refine⟨i,by simpa using hi,?_⟩
    simp only[id] at h2
    subst h2
    simp[List.getD,hi,e]
  rw[e]
  refine⟨.bl _,H,I.kept (t':=tk) fun b o eb=>?_,rfl,q⟩
  exact hk b o (by simpa using Nat.ne_of_lt (Heap.lt_size eb)) (Heap.get?_push_of_some _ eb)
end
end Pr
end
section
namespace Pr
open PySem PySem.Spec PyProof.Rows L2
section
variable{K:PySem.W.Frag}{nx bk ct:L2.St->Hp->Prop}{rt:VK}{σ:L2.St}{H:Hp}{Q:VK}{QB:Bool->Hp->Prop}{QA:List V->Hp->Prop}{QS:L2.St->Hp->Prop}{t u:TS}{te ta tb:TE}{tt tu:TT}{tx tr:TA}{g:TG}{r:R2}{i j:Nat}{v x y:V}{E:XK}{sp:Sp}{dvs:List V}
theorem bD4 (h:t ⟨u ⟨nx,rt,bk,ct⟩,rt,bk,ct⟩ σ H):bCd t u ⟨nx,rt,bk,ct⟩ σ H:=h
theorem bAm (h:nx σ H):aZ2 ⟨nx,rt,bk,ct⟩ σ H:=h
theorem bD5 (h:te σ H fun x H1=>g x σ H1 nx):aWt te g ⟨nx,rt,bk,ct⟩ σ H:=h
theorem aXf (h:QS (σ.set i (some v)) H):M7 i v σ H QS:=h
theorem bD6 (h:te σ H rt):aO3 te ⟨nx,rt,bk,ct⟩ σ H:=h
theorem bAn (h:rt .non H):bCe ⟨nx,rt,bk,ct⟩ σ H:=h
theorem bAo (h:te σ H fun _ H1=>nx σ H1):aZ3 te ⟨nx,rt,bk,ct⟩ σ H:=h
theorem bD7 (h:tt σ H fun b H1=>if b=true then t ⟨nx,rt,bk,ct⟩ σ H1 else u ⟨nx,rt,bk,ct⟩ σ H1):bCf tt t u ⟨nx,rt,bk,ct⟩ σ H:=h
theorem bD8 (e:σ[i]?=some (some v))(h:Q v H):bA3 i σ H Q:=⟨v,e,h⟩
theorem r_c (h:Q v H):tC v σ H Q:=h
theorem bEy (h:ta σ H fun x H1=>tb σ H1 fun y H2=>r x y H2 Q):tOp r ta tb σ H Q:=h
theorem bEz {r:V->Hp->VK->Prop}(h:ta σ H fun x H1=>r x H1 Q):tUn r ta σ H Q:=h
theorem bF0 {gg:Int->Int->V}{a b:Int}(h:Q (gg a b) H):rI0 gg (.int a) (.int b) H Q:=⟨a,b,rfl,rfl,h⟩
theorem LR {C:Int->Int->Prop}{gg:Int->Int->V}{a b:Int}(c:C a b)(h:Q (gg a b) H):rI C gg (.int a) (.int b) H Q:=⟨a,b,rfl,rfl,c,h⟩
theorem bF1 {gg:Int->V}{a:Int}(h:Q (gg a) H):rU gg (.int a) H Q:=⟨a,rfl,h⟩
theorem bF2 (s:aWw x y=true)(h:Q (.bl (decide (x=y))) H):rEq x y H Q:=⟨s,h⟩
theorem bF3 (s:aWw x y=true)(h:Q (.bl (!decide (x=y))) H):rNe x y H Q:=⟨s,h⟩
theorem bAp (h:te σ H fun x H'=> ∃k,x= .bl k/\QB k H'):aQ8 te σ H QB:=h
theorem bF4 (h:te σ H fun x H'=> ∃k,x= .bl k/\QB k H'):tB te σ H QB:=h
theorem bD9 {b:Bool}{QQ:Bool->Prop}(h:QQ b): ∃k,V.bl b=V.bl k/\QQ k:=⟨b,rfl,h⟩
theorem bDa {b:Int}{QQ:Int->Prop}(h:QQ b): ∃k,V.int b=V.int k/\QQ k:=⟨b,rfl,h⟩
theorem bDb (h:tt σ H fun c H1=>QB (!c) H1):bCc tt σ H QB:=h
theorem bDc (h:tt σ H fun c H1=>if c=true then tu σ H1 QB else QB false H1):bCb tt tu σ H QB:=h
theorem bF5 (h:tt σ H fun c H1=>if c=true then QB true H1 else tu σ H1 QB):tOr tt tu σ H QB:=h
theorem bF6 (h:tt σ H fun c H1=>if c=true then ta σ H1 Q else tb σ H1 Q):tIf tt ta tb σ H Q:=h
theorem aXg {r r':R2}{tc:TE}(h:ta σ H fun x H1=>tb σ H1 fun y H2=>r x y H2 fun z H3=> ∃k,z= .bl k/\(if k=true then tc σ H3 fun w' H4=>r' y w' H4 Q else Q (.bl false) H3)):aO8 r r' ta tb tc σ H Q:=h
theorem bAq (h:tx σ H fun vs H1=>sp (vs++dvs) H1 Q E):aZ5 sp dvs E tx σ H Q:=h
theorem bAr (h:ta σ H fun x H1=>tr σ H1 fun xs H2=>QA (x::xs) H2):aCs ta tr σ H QA:=h
theorem bDd (h:QA [] H):aFb σ H QA:=h
theorem bF7 {r:List V->Hp->VK->Prop}(h:tx σ H fun vs H1=>r vs H1 Q):tCB r tx σ H Q:=h
theorem bDe {f:Str}(h:ta σ H fun x H1=> ∃a C dx fs v,x= .ref a/\H1 a=some (.ins C dx fs)/\Cls K C/\cW K C f/\fs.lookup f=some v/\Q v H1):bCl K ta f σ H Q:=h
theorem bAs {f:Str}{p C dx:Addr}{fs:List (Str×V)}{QQ:V->Prop}(hp:H p=some (.ins C dx fs))(c:Cls K C)(n:cW K C f)(l:fs.lookup f=some v)(h:QQ v): ∃a C dx fs v,V.ref p= .ref a/\H a=some (.ins C dx fs)/\Cls K C/\cW K C f/\fs.lookup f=some v/\QQ v:=⟨p,C,dx,fs,v,rfl,hp,c,n,l,h⟩
theorem bAt {f:Str}(h:tb σ H fun y H1=>ta σ H1 fun x H2=> ∃a C dx fs,x= .ref a/\H2 a=some (.ins C dx fs)/\Cls K C/\cW K C f/\fs.length<1000/\nx σ (upd H2 a (.ins C dx (lX f y fs)))):bCm K ta tb f ⟨nx,rt,bk,ct⟩ σ H:=h
theorem aXh {f:Str}{p C dx:Addr}{fs:List (Str×V)}{QQ:Hp->Prop}(hp:H p=some (.ins C dx fs))(c:Cls K C)(n:cW K C f)(l:fs.length<1000)(h:QQ (upd H p (.ins C dx (lX f y fs)))): ∃a C dx fs,V.ref p= .ref a/\H a=some (.ins C dx fs)/\Cls K C/\cW K C f/\fs.length<1000/\QQ (upd H a (.ins C dx (lX f y fs))):=⟨p,C,dx,fs,rfl,hp,c,n,l,h⟩
theorem bAu {C:Addr}{m:Str}(h:ta σ H fun x H1=> ∃a dx fs,x= .ref a/\H1 a=some (.ins C dx fs)/\fs.lookup m=none/\tx σ H1 fun vs H2=>sp (x::(vs++dvs)) H2 Q E):aU9 C m sp dvs E ta tx σ H Q:=h
theorem aXi {C p dx:Addr}{m:Str}{fs:List (Str×V)}{QQ:Prop}(hp:H p=some (.ins C dx fs))(l:fs.lookup m=none)(h:QQ): ∃a dx fs,V.ref p= .ref a/\H a=some (.ins C dx fs)/\fs.lookup m=none/\QQ:=⟨p,dx,fs,rfl,hp,l,h⟩
theorem bAv {C:Addr}(h:tx σ H fun vs H1=> ∀x dx,H1 x=none->H1 dx=none->dx≠x->sp (.ref x::(vs++dvs)) (upd (upd H1 dx (.own x)) x (.ins C dx [])) (fun v H2=>v= .non/\Q (.ref x) H2) E):aUa C sp dvs E tx σ H Q:=h
theorem bAw (h:ta σ H fun x H1=>tb σ H1 fun y H2=> ∃a v,x= .ref a/\aIg H2 a y (some v)/\Q v H2):aZb ta tb σ H Q:=h
theorem bAx {a:Addr}{kvs:List (Key×V)}{k:Str}(hd:H a=some (.dK kvs))(e:S5 kvs (Sum.inr k)=some v):aIg H a (.str k) (some v):=by
 have h:=aIg.k (k:=Sum.inr k) hd
 rw[e] at h
 exact h
theorem aJh {a:Addr}{kvs:List (Key×V)}{k:Str}{QQ:V->Prop}(hd:H a=some (.dK kvs))(e:S5 kvs (Sum.inr k)=some v)(h:QQ v): ∃a' v',V.ref a= .ref a'/\aIg H a' (.str k) (some v')/\QQ v':=⟨a,v,rfl,bAx hd e,h⟩
theorem cI {p:Addr}{xs:List V}{n:Int}(hs:SqL K H p xs)(e:atI xs n=some v)(h:Q v H):bCq K (.ref p) (.int n) H Q:=⟨p,xs,n,v,rfl,rfl,hs,e,h⟩
theorem aQu {p:Addr}{xs:List V}{n:Int}(hs:SqT K H p xs)(e:atI xs n=some v)(h:Q v H):bCr K (.ref p) (.int n) H Q:=⟨p,xs,n,v,rfl,rfl,hs,e,h⟩
theorem bDf {ti:TIp}(e:σ[i]?=some (some x))(h:te σ H fun y H1=>ti x y H1 fun z H2=>nx (σ.set i (some z)) H2):bCh i te ti ⟨nx,rt,bk,ct⟩ σ H:=⟨x,e,h⟩
theorem bDg {gg:Int->Int->Int}{a b:Int}(h:Q (.int (gg a b)) H):ipI gg (.int a) (.int b) H Q:=⟨a,b,rfl,rfl,h⟩
theorem aUw {rd:V->V->Hp->VK->Prop}{f:Str}(h:ta σ H fun x H1=> ∃a C dx fs v,x= .ref a/\H1 a=some (.ins C dx fs)/\Cls K C/\cW K C f/\fs.lookup f=some v/\
 tb σ H1 fun y H2=>rd v y H2 fun z H3=> ∃dx' fs',H3 a=some (.ins C dx' fs')/\fs'.length<1000/\nx σ (upd H3 a (.ins C dx' (lX f z fs')))):aQ9 K ta tb rd f ⟨nx,rt,bk,ct⟩ σ H:=h
theorem aSp {f:Str}{p C dx:Addr}{fs:List (Str×V)}{QQ:Addr->Addr->V->Prop}(hp:H p=some (.ins C dx fs))(c:Cls K C)(n:cW K C f)(l:fs.lookup f=some v)(h:QQ p C v): ∃a C dx fs v,V.ref p= .ref a/\H a=some (.ins C dx fs)/\Cls K C/\cW K C f/\fs.lookup f=some v/\QQ a C v:=⟨p,C,dx,fs,v,rfl,hp,c,n,l,h⟩
theorem bAy {a b:Int}(h:Q (.int (a+b)) H):bCo (.int a) (.int b) H Q:=⟨a,b,rfl,rfl,h⟩
theorem bDh {p C dx:Addr}{fs:List (Str×V)}{f:Str}{z:V}{QQ:Hp->Prop}(hp:H p=some (.ins C dx fs))(l:fs.length<1000)(h:QQ (upd H p (.ins C dx (lX f z fs)))): ∃dx' fs',H p=some (.ins C dx' fs')/\fs'.length<1000/\QQ (upd H p (.ins C dx' (lX f z fs'))):=⟨dx,fs,hp,l,h⟩
theorem bDi {p:Addr}{ys:List V}{QQ:List V->Prop}(hs:SqL K H p ys)(h:QQ ys): ∃p' ys',([V.ref p]:List V)=[.ref p']/\(SqL K H p' ys'\/SqT K H p' ys')/\QQ ys':=⟨p,ys,rfl,.inl hs,h⟩
theorem bDj {a b:Int}{QQ:Int->Int->Prop}(h:QQ a b): ∃i j,([V.int a,V.int b]:List V)=[.int i,.int j]/\QQ i j:=⟨a,b,rfl,h⟩
theorem V9 {b:Bool}{A B:Prop}(e:b=true)(h:A):if b=true then A else B:=by rw[if_pos e];exact h
theorem nJ {b:Bool}{A B:Prop}(e:b=false)(h:B):if b=true then A else B:=by rw[if_neg (by rw[e];decide)];exact h
theorem bDk (h:tx σ H fun xs H1=>xs.length<=sizeLine/\ ∀p,H1 p=none->Q (.ref p) (upd H1 p (.tup xs))):bCp tx σ H Q:=h
theorem bDl (h:tx σ H fun xs H1=>xs.length<=sizeLine/\ ∀p,H1 p=none->Q (.ref p) (upd H1 p (.lst xs))):aLg tx σ H Q:=h
theorem bF8 {r:V->Option Int->Option Int->Hp->VK->Prop}{tl th:TO}(h:te σ H fun x H1=>tl σ H1 fun l H2=>th σ H2 fun u H3=>r x l u H3 Q):tSl r te tl th σ H Q:=h
theorem bAz {QO:Option Int->Hp->Prop}(h:te σ H fun x H1=> ∃i,x= .int i/\QO (some i) H1):aZ7 te σ H QO:=h
theorem aUx {QO:Option Int->Hp->Prop}(h:QO none H):aQa σ H QO:=h
theorem Q7 {p:Addr}{xs:List V}{lo hi:Option Int}(hs:SqL K H p xs)(h: ∀q,H q=none->Q (.ref q) (upd H q (.lst (aCt xs lo hi)))):bCs K (.ref p) lo hi H Q:=⟨p,xs,rfl,hs,h⟩
theorem Y5 {l b:Addr}{xs zs:List V}(h1:H l=some (.lst xs))(h2:H b=some (.lst zs))(hl:xs.length+zs.length<=sizeLine)(h: ∀p,H p=none->Q (.ref p) (upd H p (.lst (xs++zs)))):bCu (.ref l) (.ref b) H Q:=⟨l,b,xs,zs,rfl,rfl,h1,h2,hl,h⟩
end
section
variable{X:Cx}{e:Expr}{te:TE}{pos p2:Pos}
noncomputable def aUy (es:List Expr)(ss:List Str):Prop:=Paired (fun(e:Expr)(z:Str)=> ∃j p,e= .Constant (.str z) j p) es ss
theorem aJi: ∀{es:List Expr}{ss:List Str},aUy es ss->PA X es (fun _ H Q=>Q (ss.map V.str) H)
 |_,_,.nil=>fun pos pins s σ H Q I h=>aD pos pins s σ H Q I h
 |_,_,.cons ⟨j,p,hz⟩ t=>by
  subst hz
  intro pos pins s σ H Q I h
  exact aA (t:=_) aN (aJi t) rfl pos pins s σ H Q I h
theorem aUz (x:Str)(ss:List Str):inV (.str x) (ss.map V.str)=decide (x∈ss):=by
 induction ss with
 |nil=>rfl
 |cons a l ih=>
  have e:eqV (V.str a) (V.str x)=decide (x=a):=by
   show (a==x)=_
   rw[Bool.beq_eq_decide_eq]
   exact decide_eq_decide.mpr eq_comm
  show (eqV (V.str a) (V.str x)||inV (.str x) (l.map V.str))=_
  rw[ih,e,<- Bool.decide_or]
  exact decide_eq_decide.mpr List.mem_cons.symm
theorem aA3 (ss:List Str):(ss.map V.str).all uY=true:=by
 induction ss with
 |nil=>rfl
 |cons a l ih=>rw[List.map_cons,List.all_cons,ih];rfl
noncomputable def bB0 (neg:Bool)(te:TE)(ss:List Str):TE:=fun σ H Q=>te σ H fun x H1=> ∃z,x= .str z/\Q (.bl (if neg then !decide (z∈ss) else decide (z∈ss))) H1
theorem aMm {z:Str}{ss:List Str}{us:List Value}(r:Vals (ss.map V.str) us):us.toArray.any (eqU (.str z))=decide (z∈ss):=by
 rw[show us.toArray.any (eqU (.str z))=us.any (eqU (.str z)) by simp,R9 r (aA3 ss)]
 exact aUz z ss
theorem aV0 {es:List Expr}{ss:List Str}{k:Nat}(he:PE X e te)(hs:aUy es ss)(hz:ss.length<=sizeLine):PE X (.Compare e [.In] [.Tuple es k p2] pos) (bB0 false te ss):=by
 intro pins s σ H Q I h
 refine wpAny_Compare1 ?_ rfl
 refine thn (he pins s σ H _ I h) fun v s1⟨x,H1,I1,r1,z,ez,q⟩=>?_
 subst ez
 refine wpAny_Tuple_spliced (thn (aJi hs p2 pins s1 σ H1 (fun vs H2=>vs=ss.map V.str/\H2=H1) I1 ⟨rfl,rfl⟩) fun us s2⟨xs,H2,I2,r,e1,e2⟩=>⟨by rw[<- r.length,e1,List.length_map];exact hz,?_⟩)
 subst e1 e2
 refine SeqAt.in_tupleAt (eqU (.str z)) ⟨_,Heap.get?_push_size _ rfl,rfl,_,rfl⟩ (fun w hw=>uZ r1 rfl r (aA3 ss) w (by simpa using hw)) ⟨.bl _,H2,I2.kept (t':=s2.toks) (fun b u e=>Heap.get?_push_of_some _ e),rfl,?_⟩
 rw[aMm r]
 exact q
theorem bB1 {es:List Expr}{ss:List Str}{k:Nat}(he:PE X e te)(hs:aUy es ss)(hz:ss.length<=sizeLine):PT X (.Compare e [.In] [.Tuple es k p2] pos) (aQ8 (bB0 false te ss)):=by
 intro pins s σ H Q I h
 refine wpAny_isTrue_Compare1 ?_ rfl
 refine thn (he pins s σ H _ I h) fun v s1⟨x,H1,I1,r1,z,ez,q⟩=>?_
 subst ez
 refine wpAny_Tuple_spliced (thn (aJi hs p2 pins s1 σ H1 (fun vs H2=>vs=ss.map V.str/\H2=H1) I1 ⟨rfl,rfl⟩) fun us s2⟨xs,H2,I2,r,e1,e2⟩=>⟨by rw[<- r.length,e1,List.length_map];exact hz,?_⟩)
 subst e1 e2
 obtain⟨kk,ek,q⟩:=q
 cases ek
 refine SeqAt.in_tupleAt (eqU (.str z)) ⟨_,Heap.get?_push_size _ rfl,rfl,_,rfl⟩ (fun w hw=>uZ r1 rfl r (aA3 ss) w (by simpa using hw)) ?_
 rw[aMm r]
 exact wpAny_truthy_bool ⟨H2,I2.kept (t':=s2.toks) (fun b u e=>Heap.get?_push_of_some _ e),q⟩
theorem bDm {H:Hp}{σ:L2.St}{Q:VK}{te:TE}{neg:Bool}{ss:List Str}(h:te σ H fun x H1=> ∃z,x= .str z/\Q (.bl (if neg then !decide (z∈ss) else decide (z∈ss))) H1):bB0 neg te ss σ H Q:=h
theorem bDn {b:Str}{QQ:Str->Prop}(h:QQ b): ∃k,V.str b=V.str k/\QQ k:=⟨b,rfl,h⟩
theorem dR {x:Str}{v:V}{p:Pos}(hg:Gl X x)(hm: ∃u,X.mg x=some u/\RelV v u)(hd:(x==("__debug__":Str))=false:=by decide):PE X (.Name x p) (tC v):=
 let ⟨_,h1,h2⟩:=hm
 pR hg h1 h2 hd
end
section
variable{K:PySem.W.Frag}{nx bk ct:L2.St->Hp->Prop}{rt:VK}{σ:L2.St}{H:Hp}{Q:VK}{te to ti ta tb:TE}{tx:TA}
theorem bB2 {trs:List (TE×TE)}(h: ∀p,H p=none->U7 trs σ (upd H p (.dK [])) fun ps H2=>H2 p=some (.dK [])/\ ∃kvs:List (Key×V),ps=kvs.map (fun kv=>(kV kv.1,kv.2))/\kvs.length<=15/\Q (.ref p) (upd H2 p (.dK (zV [] kvs)))):aUi trs σ H Q:=h
theorem aXj {tk tv:TE}{r:List (TE×TE)}{QP:List (V×V)->Hp->Prop}(h:tk σ H fun x H1=>tv σ H1 fun y H2=>U7 r σ H2 fun ps H3=>QP ((x,y)::ps) H3):U7 ((tk,tv)::r) σ H QP:=h
theorem bB3 {QP:List (V×V)->Hp->Prop}(h:QP [] H):U7 [] σ H QP:=h
theorem bF9 {T:String}{r:V->List V->Hp->VK->Prop}(h:to σ H fun x H1=>tyV K T x H1/\tx σ H1 fun xs H2=>r x xs H2 Q):tBM K T r to tx σ H Q:=h
theorem bB4 (h:ta σ H fun x H1=> ∃c,x= .bl c/\if c=true then tb σ H1 Q else Q (.bl false) H1):aZ1 ta tb σ H Q:=h
theorem bDo (h:ta σ H fun x H1=> ∃c,x= .bl c/\if c=true then Q (.bl true) H1 else tb σ H1 Q):bEo ta tb σ H Q:=h
theorem bB5 {v:V}{t:aO5}{QS:L2.St->Hp->Prop}(h:to σ H fun o H1=>ti σ H1 fun i H2=>t o i v H2 fun H3=>QS σ H3):bCg to ti t v σ H QS:=h
theorem aXk {td ty tv:TE}(h:tv σ H fun v H1=>td σ H1 fun x H2=>ty σ H2 fun y H3=> ∃a H4,x= .ref a/\aIh H3 a y v H4/\nx σ H4):aZc td ty tv ⟨nx,rt,bk,ct⟩ σ H:=h
theorem tyL {l:Addr}{xs:List V}(h:H l=some (.lst xs)):tyV K "list" (.ref l) H:= .inl ⟨rfl,_,SqL.of h⟩
theorem Q8 {l:Addr}{xs:List V}{y:V}(h:H l=some (.lst xs))(hl:xs.length<sizeLine)(q:Q .non (upd H l (.lst (xs++[y])))):aQd (.ref l) [y] H Q:=⟨l,xs,y,rfl,rfl,h,hl,q⟩
theorem Y6 {l b:Addr}{xs zs:List V}(h:H l=some (.lst xs))(hb:H b=some (.lst zs))(hl:xs.length+zs.length<=sizeLine)(q:Q .non (upd H l (.lst (xs++zs)))):RB (.ref l) [.ref b] H Q:=⟨l,b,xs,zs,rfl,rfl,h,hb,hl,q⟩
end
end Pr
end
open Lean in
def zQw (x:Syntax)(m:MacroM (TSyntax `tactic)):MacroM Syntax:=match x with
|`(tactic|walk_at "s")=>m
|_=>Macro.throwUnsupported
open Lean in
def zQm (x:Syntax)(n:Name):MacroM Syntax:=zQw x `(tactic|with_reducible refine $(mkIdent n) ?_)
open Lean in
def zQA:MacroM (TSyntax `tactic):= `(tactic|first | assumption | exact L2.aH)
open Lean in
def zQB:MacroM (TSyntax `tactic):= `(tactic|assumption)
open Lean in
def zQC:MacroM (TSyntax `tactic):= `(tactic|rfl)
open Lean in
def zQD:MacroM (TSyntax `tactic):= `(tactic|exact of_decide_eq_true rfl)
open Lean in
def zQE:MacroM (TSyntax `tactic):= `(tactic|first | decide +kernel | rfl)
open Lean in
def zQ1 (x:Syntax)(n:Name)(a:MacroM (TSyntax `tactic)):MacroM Syntax:=zQw x do `(tactic|((with_reducible refine' $(mkIdent n) ?e1 ?_);(case e1 => $(← a):tactic)))
open Lean in
def zQ2 (x:Syntax)(n:Name)(a b:MacroM (TSyntax `tactic)):MacroM Syntax:=zQw x do `(tactic|((with_reducible refine' $(mkIdent n) ?e1 ?e2 ?_);(case e1 => $(← a):tactic);(case e2 => $(← b):tactic)))
open Lean in
def zQ4 (x:Syntax)(n:Name)(a b c d:MacroM (TSyntax `tactic)):MacroM Syntax:=zQw x do `(tactic|((with_reducible refine' $(mkIdent n) ?e1 ?e2 ?e3 ?e4 ?_);(case e1 => $(← a):tactic);(case e2 => $(← b):tactic);(case e3 => $(← c):tactic);(case e4 => $(← d):tactic)))
local macro_rules (kind:=PyProof.Rows.tacticWalk_at_)|x=>zQ2 x `Pr.bDh zQA zQD
local macro_rules (kind:=PyProof.Rows.tacticWalk_at_)|x=>zQ4 x `Pr.aSp zQA zQB zQB zQC
local macro_rules (kind:=PyProof.Rows.tacticWalk_at_)|x=>zQ4 x `Pr.aXh zQA zQB zQB zQD
local macro_rules (kind:=PyProof.Rows.tacticWalk_at_)|x=>zQ1 x `Pr.bDf zQC
local macro_rules (kind:=PyProof.Rows.tacticWalk_at_)|x=>zQ1 x `Pr.bDi zQB
local macro_rules (kind:=PyProof.Rows.tacticWalk_at_)|x=>zQ2 x `Pr.aXi zQA zQC
local macro_rules (kind:=PyProof.Rows.tacticWalk_at_)|x=>zQ4 x `Pr.bAs zQA zQB zQB zQC
local macro_rules (kind:=PyProof.Rows.tacticWalk_at_)|x=>zQ1 x `Pr.nJ zQE
local macro_rules (kind:=PyProof.Rows.tacticWalk_at_)|x=>zQ1 x `Pr.V9 zQE
local macro_rules (kind:=PyProof.Rows.tacticWalk_at_)|x=>zQ2 x `Pr.aJh zQB zQC
local macro_rules (kind:=PyProof.Rows.tacticWalk_at_)|x=>zQ1 x `Pr.bF3 zQC
local macro_rules (kind:=PyProof.Rows.tacticWalk_at_)|x=>zQ1 x `Pr.bF2 zQC
local macro_rules (kind:=PyProof.Rows.tacticWalk_at_)|x=>zQ1 x `Pr.bD8 zQC
local macro_rules (kind:=PyProof.Rows.tacticWalk_at_)|x=>zQm x `Pr.aXk
local macro_rules (kind:=PyProof.Rows.tacticWalk_at_)|x=>zQm x `Pr.bB5
local macro_rules (kind:=PyProof.Rows.tacticWalk_at_)|x=>zQm x `Pr.bDo
local macro_rules (kind:=PyProof.Rows.tacticWalk_at_)|x=>zQm x `Pr.bB4
local macro_rules (kind:=PyProof.Rows.tacticWalk_at_)|x=>zQm x `Pr.bF9
local macro_rules (kind:=PyProof.Rows.tacticWalk_at_)|x=>zQm x `Pr.bB3
local macro_rules (kind:=PyProof.Rows.tacticWalk_at_)|x=>zQm x `Pr.aXj
local macro_rules (kind:=PyProof.Rows.tacticWalk_at_)|x=>zQm x `Pr.bB2
local macro_rules (kind:=PyProof.Rows.tacticWalk_at_)|x=>zQm x `Pr.bAn
local macro_rules (kind:=PyProof.Rows.tacticWalk_at_)|x=>zQm x `Pr.aUx
local macro_rules (kind:=PyProof.Rows.tacticWalk_at_)|x=>zQm x `Pr.bAz
local macro_rules (kind:=PyProof.Rows.tacticWalk_at_)|x=>zQm x `Pr.bF8
local macro_rules (kind:=PyProof.Rows.tacticWalk_at_)|x=>zQm x `Pr.bDk
local macro_rules (kind:=PyProof.Rows.tacticWalk_at_)|x=>zQm x `Pr.bDl
local macro_rules (kind:=PyProof.Rows.tacticWalk_at_)|x=>zQm x `Pr.bAy
local macro_rules (kind:=PyProof.Rows.tacticWalk_at_)|x=>zQm x `Pr.aUw
local macro_rules (kind:=PyProof.Rows.tacticWalk_at_)|x=>zQm x `Pr.bAt
local macro_rules (kind:=PyProof.Rows.tacticWalk_at_)|x=>zQm x `Pr.bDa
local macro_rules (kind:=PyProof.Rows.tacticWalk_at_)|x=>zQm x `Pr.bDg
local macro_rules (kind:=PyProof.Rows.tacticWalk_at_)|x=>zQm x `Pr.bDj
local macro_rules (kind:=PyProof.Rows.tacticWalk_at_)|x=>zQm x `Pr.bF1
local macro_rules (kind:=PyProof.Rows.tacticWalk_at_)|x=>zQm x `Pr.bEz
local macro_rules (kind:=PyProof.Rows.tacticWalk_at_)|x=>zQm x `Pr.aXg
local macro_rules (kind:=PyProof.Rows.tacticWalk_at_)|x=>zQm x `Pr.bF4
local macro_rules (kind:=PyProof.Rows.tacticWalk_at_)|x=>zQm x `Pr.bAm
local macro_rules (kind:=PyProof.Rows.tacticWalk_at_)|x=>zQm x `Pr.bDb
local macro_rules (kind:=PyProof.Rows.tacticWalk_at_)|x=>zQm x `Pr.bF6
local macro_rules (kind:=PyProof.Rows.tacticWalk_at_)|x=>zQm x `Pr.bF5
local macro_rules (kind:=PyProof.Rows.tacticWalk_at_)|x=>zQm x `Pr.bDc
local macro_rules (kind:=PyProof.Rows.tacticWalk_at_)|x=>zQm x `Pr.bDn
local macro_rules (kind:=PyProof.Rows.tacticWalk_at_)|x=>zQm x `Pr.bDm
local macro_rules (kind:=PyProof.Rows.tacticWalk_at_)|x=>zQm x `Pr.bAu
local macro_rules (kind:=PyProof.Rows.tacticWalk_at_)|x=>zQm x `Pr.bAv
local macro_rules (kind:=PyProof.Rows.tacticWalk_at_)|x=>zQm x `Pr.bF7
local macro_rules (kind:=PyProof.Rows.tacticWalk_at_)|x=>zQm x `Pr.bDd
local macro_rules (kind:=PyProof.Rows.tacticWalk_at_)|x=>zQm x `Pr.bAr
local macro_rules (kind:=PyProof.Rows.tacticWalk_at_)|x=>zQm x `Pr.bAq
local macro_rules (kind:=PyProof.Rows.tacticWalk_at_)|x=>zQm x `Pr.bDe
local macro_rules (kind:=PyProof.Rows.tacticWalk_at_)|x=>zQm x `Pr.bF0
local macro_rules (kind:=PyProof.Rows.tacticWalk_at_)|x=>zQm x `Pr.bD9
local macro_rules (kind:=PyProof.Rows.tacticWalk_at_)|x=>zQm x `Pr.bAp
local macro_rules (kind:=PyProof.Rows.tacticWalk_at_)|x=>zQm x `Pr.bAw
local macro_rules (kind:=PyProof.Rows.tacticWalk_at_)|x=>zQm x `Pr.bEy
local macro_rules (kind:=PyProof.Rows.tacticWalk_at_)|x=>zQm x `Pr.r_c
local macro_rules (kind:=PyProof.Rows.tacticWalk_at_)|x=>zQm x `Pr.bD7
local macro_rules (kind:=PyProof.Rows.tacticWalk_at_)|x=>zQm x `Pr.bAo
local macro_rules (kind:=PyProof.Rows.tacticWalk_at_)|x=>zQm x `Pr.bD6
local macro_rules (kind:=PyProof.Rows.tacticWalk_at_)|x=>zQm x `Pr.aXf
local macro_rules (kind:=PyProof.Rows.tacticWalk_at_)|x=>zQm x `Pr.bD5
local macro_rules (kind:=PyProof.Rows.tacticWalk_at_)|x=>zQm x `Pr.bD4
local macro_rules | `(tactic| walk_at "go") => `(tactic| repeat walk_at "s")
local macro_rules | `(tactic| walk_at "o") => `(tactic| first | decide | lia)
section
namespace Pr
open PySem PySem.Spec PyProof.Rows L2
structure FnM (K:PySem.W.Frag)(mg:Str->Option Value)(x:Str)(s:Stmt)(ps:List Str) where
 f:Addr
 fd:FuncData
 F:Fun K x x s f fd
 b:Binds K fd ps []
 m:mg x=some (.ref f)
 k:PySem.W.keepIn K (.ref f)=true
structure MtM (K:PySem.W.Frag)(C:Addr)(x qual:Str)(s:Stmt)(ps:List Str) where
 f:Addr
 fd:FuncData
 F:Fun K x qual s f fd
 b:Binds K fd ps []
 m:Meth K C x f
structure InM (K:PySem.W.Frag)(C:Addr)(qual:Str)(s:Stmt)(ps:List Str) where
 f:Addr
 fd:FuncData
 F:Fun K "__init__" qual s f fd
 b:Binds K fd ps []
 ma:Mk K C f
structure ClM (K:PySem.W.Frag)(mg:Str->Option Value)(x:Str) where
 C:Addr
 c:Cls K C
 m:mg x=some (.ref C)
set_option genInjectivity false in
set_option genSizeOf false in
structure Md (w:World)(K:PySem.W.Frag)(mg:Str->Option Value) where
 sI:mg "len"=none
 aMn:mg "max"=none
 aQv:mg "min"=none
 aZg:mg "any"=none
 aP5:mg "dict"=none
 RT:mg "range"=none
 Q9:mg "enumerate"=none
 aC4: ∃u,mg "WORST"=some u/\RelV (.int 10000) u
 aDk: ∃u,mg "NO_BREAK"=some u/\RelV (.int 10000) u
 aDl: ∃u,mg "FORCED"=some u/\RelV (.int (-10000)) u
 KZ: ∃u,mg "COST_OF_WORST"=some u/\RelV (.int 100000) u
 aH6: ∃u,mg "IN_STEP"=some u/\RelV (.int 0) u
 aH7: ∃u,mg "CENTRED"=some u/\RelV (.int 1) u
 T7: ∃u,mg "MOST_COPIES"=some u/\RelV (.int 16) u
 aAx: ∃u,mg "ROW"=some u/\RelV (.int 0) u
 aDm: ∃u,mg "COLUMN"=some u/\RelV (.int 1) u
 T8: ∃u,mg "AS_IT_COMES"=some u/\RelV (.int 0) u
 aAy: ∃u,mg "TO_A_SIZE"=some u/\RelV (.int 1) u
 aH8: ∃u,mg "NOTHING"=some u/\RelV (.int 0) u
 aQw: ∃u,mg "LOOSE"=some u/\RelV (.int 1) u
 aQx: ∃u,mg "TIGHT"=some u/\RelV (.int 2) u
 aDn: ∃u,mg "TOO_FULL"=some u/\RelV (.int 3) u
 Y7: ∃u,mg "GLYPH_LEAF"=some u/\RelV (.int 0) u
 aAz: ∃u,mg "RULE_LEAF"=some u/\RelV (.int 1) u
 T9: ∃u,mg "ANCHOR_LEAF"=some u/\RelV (.int 2) u
 aH9: ∃u,mg "DEEPEST"=some u/\RelV (.int 8) u
 xZ: ∃u,mg "MOST_NUMBERS"=some u/\RelV (.int 2000) u
 j6: ∃u,mg "LISTS"=some u/\RelV (.int 8) u
 w6: ∃u,mg "NO_GREATEST_DEPTH"=some u/\RelV (.int (-1)) u
 Y8:Addr
 aJj:mg "GLUES"=some (.ref Y8)
 aQy:Tup K Y8 [.str "glue",.str "leaders"]
 FW:Addr
 aA4:mg "DROPPED"=some (.ref FW)
 aA5:Tup K FW [.str "glue",.str "leaders",.str "kern",.str "penalty"]
 FZ:Addr
 aA6:mg "STAYING"=some (.ref FZ)
 aA7:Tup K FZ [.str "box",.str "rule",.str "insertion"]
 QC:Addr
 aDo:mg "MOVING"=some (.ref QC)
 aDp:Tup K QC [.str "insertion",.str "mark",.str "adjust"]
 zP:Addr
 aC5:mg "KINDS"=some (.ref zP)
 aQz:Tup K zP [.str "glyph",.str "kern",.str "glue",.str "leaders",.str "penalty",.str "rule",.str "box",.str "disc",.str "adjust",.str "mark",.str "insertion",.str "anchor"]
 aR0: ∃o,K.lookup zP=some o/\o.cls= .type "tuple"/\o.dict=none
 aDq:Addr
 aJk:Addr
 Y9:Addr
 tb:Tb K w mg aDq aJk zP
 aV1:mg "RANGES"=some (.ref aDq)
 YB:mg "FORMS"=some (.ref aJk)
 aR1:mg "CALLS"=some (.ref Y9)
 cY:Addr
 kW:XC K mg "WrongNumber" cY
 bY:Addr
 dG:XC K mg "WrongList" bY
 o9:Addr
 yC:XC K mg "NotThere" o9
 jG:Addr
 wU:XC K mg "NotKept" jG
 qU:ClM K mg "Fit"
 VB:cW K qU.C "order"
 aA8:cW K qU.C "part"
 VD:cW K qU.C "total"
 sJ:cW K qU.C "badness"
 vD:cW K qU.C "excess"
 fZ:InM K qU.C "Fit.__init__" UJ IK
 fL:ClM K mg "Gives"
 lU:cW K fL.C "stretches"
 oA:cW K fL.C "shrinks"
 kY:InM K fL.C "Gives.__init__" IV wC
 gC:MtM K fL.C "include" "Gives.include" vK pU
 dM:ClM K mg "Size"
 iK:cW K dM.C "width"
 fU:cW K dM.C "height"
 kE:cW K dM.C "depth"
 cC:InM K dM.C "Size.__init__" NZ yV
 bI:ClM K mg "GrowingColumn"
 kI:cW K bI.C "width"
 jN:cW K bI.C "length"
 gR:cW K bI.C "last_depth"
 eF:InM K bI.C "GrowingColumn.__init__" o7 jX
 d8:MtM K bI.C "include" "GrowingColumn.include" lO iU
 cA:MtM K bI.C "size_by_last_line" "GrowingColumn.size_by_last_line" gB dO
 cD:ClM K mg "FittedColumn"
 kJ:cW K cD.C "column"
 lG:cW K cD.C "gives"
 fC:InM K cD.C "FittedColumn.__init__" oZ lF
 dH:MtM K cD.C "include" "FittedColumn.include" m5 j5
 dU:MtM K cD.C "fit_to" "FittedColumn.fit_to" nG jL
 YC:ClM K mg "Cut"
 K6:cW K YC.C "penalty"
 vQ:cW K YC.C "upper_part"
 aA9:cW K YC.C "rest"
 G4:InM K YC.C "Cut.__init__" J7 J8
 zQ:ClM K mg "Packed"
 QD:cW K zQ.C "box"
 K7:cW K zQ.C "said"
 qN:InM K zQ.C "Packed.__init__" BZ uM
 bL:ClM K mg "Reader"
 pX:cW K bL.C "numbers"
 uV:cW K bL.C "place"
 jA:InM K bL.C "Reader.__init__" uN pJ
 cG:MtM K bL.C "ended" "Reader.ended" rP gG
 cP:MtM K bL.C "take" "Reader.take" uO mW
 jU:MtM K bL.C "take_row" "Reader.take_row" rR nW
 cF:ClM K mg "Desk"
 eG:cW K cF.C "lists"
 wV:InM K cF.C "Desk.__init__" zE zF
 G8:MtM K cF.C "put" "Desk.put" V5 JW
 wW:MtM K cF.C "told" "Desk.told" PB zG
 wX:MtM K cF.C "size" "Desk.size" PJ zH
 wY:MtM K cF.C "pack" "Desk.pack" PL zJ
 qO:MtM K cF.C "unpack" "Desk.unpack" CN uR
 wZ:MtM K cF.C "join" "Desk.join" PN zK
 tU:MtM K cF.C "shift" "Desk.shift" JZ wL
 G9:MtM K cF.C "fit" "Desk.fit" V6 K4
 qP:MtM K cF.C "places" "Desk.places" CQ uT
 GJ:MtM K cF.C "cut" "Desk.cut" V7 K5
 xG:MtM K cF.C "move" "Desk.move" Q0 zL
 mY:MtM K cF.C "keep" "Desk.keep" Q5 zM
 iM:MtM K cF.C "keep_both" "Desk.keep_both" tR oW
 jB:MtM K cF.C "box_at" "Desk.box_at" CT uU
 yD:ClM K mg "Call"
 VF:cW K yD.C "name"
 QF:cW K yD.C "whole"
 VG:cW K yD.C "rows"
 xH:InM K yD.C "Call.__init__" zN zO
 tV:FnM K mg "sum_gives" NK yR
 jC:FnM K mg "first_order" zX uG
 mZ:FnM K mg "how_badly" NQ yS
 stretched:FnM K mg "stretched" NT yU
 shrunk:FnM K mg "shrunk" aD3 WX
 pL:FnM K mg "set_glue" UL J1
 iY:FnM K mg "more_by_setting" rB nR
 bT:FnM K mg "side_size" O1 yW
 cQ:FnM K mg "size_in_row" zY j8
 gJ:FnM K mg "row_size" UW qC
 cO:FnM K mg "is_box_or_rule" tK oK
 pN:FnM K mg "is_space" V0 J2
 cB:FnM K mg "width_in_column" rD iT
 cR:FnM K mg "length_in_column" qD lZ
 jD:FnM K mg "column_size" BJ uH
 oE:FnM K mg "size_by_top" BK uI
 qI:FnM K mg "fit_column" J4 wD
 kZ:FnM K mg "penalty_at" J5 wF
 qJ:FnM K mg "break_cost" J6 wG
 oF:FnM K mg "break_taken" BP uJ
 iZ:FnM K mg "without_dropped" rF nU
 tW:FnM K mg "glue_less" O4 yX
 iB:FnM K mg "with_glue_at_top" qF m7
 jH:FnM K mg "what_moves_out" tL oM
 qK:FnM K mg "what_stays" wH wI
 eO:FnM K mg "first_copies" rH rJ
 K8:FnM K mg "in_step" ZP RL
 centred:FnM K mg "centred" ZQ RM
 spread:FnM K mg "spread" aD6 X8
 jE:FnM K mg "copy_places" BW uK
 jJ:FnM K mg "size_by_itself" tO oN
 eZ:FnM K mg "more_than_by_itself" nH jM
 oG:FnM K mg "packed_size" BX uL
 yE:FnM K mg "make_box" JB JC
 m9:FnM K mg "what_is_said" xQ rK
 mC:FnM K mg "length_along" xR rN
 pO:FnM K mg "stations" V3 JD
 cZ:FnM K mg "box_leaves" JF jZ
 mD:FnM K mg "row_leaves" JG rO
 iG:FnM K mg "column_leaves" vM mQ
 dB:FnM K mg "leaves_in_row" vN jQ
 cM:FnM K mg "leaves_in_column" qG gY
 gK:FnM K mg "leaders_in_row" tQ lR
 dY:FnM K mg "leaders_in_column" pA j4
 gU:FnM K mg "side_or" ZW RN
 gO:FnM K mg "rule_leaf" O7 yZ
 lB:FnM K mg "named_leaf" JH wJ
 pP:FnM K mg "in_range" JK xT
 n8:FnM K mg "read_list" O8 z8
 dW:FnM K mg "read_things" CG kO
 gM:FnM K mg "read_thing" gH oR
 mG:FnM K mg "read_field" JM rT
 g8:FnM K mg "read_number" CJ uP
 tX:FnM K mg "read_side" OD z9
 fM:FnM K mg "read_repeated" vO jR
 tY:FnM K mg "read_glue" j9 zA
 dD:FnM K mg "holds_leaders" vP jT
 eU:FnM K mg "tell_list" OJ o8
 fB:FnM K mg "tell_thing" JQ m8
 mH:FnM K mg "tell_field" JR rY
 lC:FnM K mg "check_kept" JT wK
 aO:FnM K mg "check_choice" xV rZ
 bN:FnM K mg "check_length" xX sE
 jF:FnM K mg "check_other" CK uQ
 tZ:FnM K mg "glue_told" P0 zB
 perform:FnM K mg "perform" aA0 RP
 answer:FnM K mg "answer" aDi XR
 answers:FnM K mg "answers" aA1 RQ
end Pr
end
section
namespace Pr
open PySem PySem.Spec PyProof.Rows L2 SbThing SbPack
noncomputable def T0:Addr->Prop:=fun _=>True
noncomputable def Th (H:Hp)(v:V)(t:Thing):Prop:=eX T0 H v (M.rawOf t)
noncomputable def Ths (H:Hp)(vs:List V)(l:List Thing):Prop:=d7 T0 H vs (M.bK l)
theorem aC6 {H H':Hp}(s:Same H H'): ∀b o,T0 b->H b=some o->T0 b/\H' b=some o:=fun b o _ h=>⟨trivial,s b o h⟩
theorem Th.mono {H H':Hp}{v:V}{t:Thing}(h:Th H v t)(s:Same H H'):Th H' v t:=eX.imp (aC6 s) h
theorem Ths.mono {H H':Hp}{v:List V}{t:List Thing}(h:Ths H v t)(s:Same H H'):Ths H' v t:=d7.imp (aC6 s) h
theorem Ths.nil {H:Hp}:Ths H [] []:=by unfold Ths;rw[M.bK];exact .nil
theorem Ths.cons {H:Hp}{v:V}{vs:List V}{t:Thing}{l:List Thing}(h:Th H v t)(k:Ths H vs l):Ths H (v::vs) (t::l):=by unfold Ths;rw[M.bK];exact .cons h k
theorem Ths.YD {H:Hp}{vs:List V}(h:Ths H vs []):vs=[]:=by
 unfold Ths at h
 rw[M.bK] at h
 cases h
 rfl
theorem Ths.GK {H:Hp}{vs:List V}{t:Thing}{l:List Thing}(h:Ths H vs (t::l)):Ex2_ fun v r=>And3_ (vs=v::r) (Th H v t) (Ths H r l):=by
 unfold Ths at h
 rw[M.bK] at h
 cases h with
 |cons a b=>exact⟨_,_,rfl,a,b⟩
theorem Ths.iff {H:Hp}: ∀{vs:List V}{l:List Thing},Ths H vs l↔Paired (Th H) vs l
 |[],[]=>⟨fun _=> .nil,fun _=> .nil⟩
 |[],t::l=>⟨fun h=>(by obtain⟨_,_,e,_⟩:=h.GK;cases e),fun h=>nomatch h⟩
 |v::vs,[]=>⟨fun h=>(by cases h.YD),fun h=>nomatch h⟩
 |v::vs,t::l=>⟨fun h=>by obtain⟨_,_,e,a,b⟩:=h.GK;cases e;exact .cons a (Ths.iff.mp b),fun h=>by cases h with|cons a b=>exact .cons a (Ths.iff.mpr b)⟩
theorem Paired.at_ {α β:Type}{F:α->β->Prop}: ∀{l₁:List α}{l₂:List β}{i:Nat}{x:α},Paired F l₁ l₂->l₁[i]?=some x->Ex1_ fun y=>And2_ (l₂[i]?=some y) (F x y)
 |_,_,_,_,.nil,e=>by simp at e
 |_,_,0,_,.cons r _,e=>by simp at e;subst e;exact⟨_,rfl,r⟩
 |_,_,i+1,x,.cons _ t,e=>by
  obtain⟨y,h1,h2⟩:=Paired.at_ (i:=i) (x:=x) t (by simpa using e)
  exact⟨y,by simpa using h1,h2⟩
theorem Ths.at_ {H:Hp}{vs:List V}{l:List Thing}{i:Nat}{v:V}(h:Ths H vs l)(e:vs[i]?=some v):Ex1_ fun t=>And2_ (l[i]?=some t) (Th H v t):=Paired.at_ (Ths.iff.mp h) e
theorem Ths.len {H:Hp}{vs:List V}{l:List Thing}(h:Ths H vs l):vs.length=l.length:=(Ths.iff.mp h).length
theorem Paired.aZh {α β:Type}{F:α->β->Prop}: ∀{l₁:List α}{l₂:List β},Paired F l₁ l₂->Paired (fun b a=>F a b) l₂ l₁
 |_,_,.nil=> .nil
 |_,_,.cons r t=> .cons r (Paired.aZh t)
theorem Ths.of {H:Hp}{vs:List V}{l:List Thing}{i:Nat}{t:Thing}(h:Ths H vs l)(e:l[i]?=some t):Ex1_ fun v=>And2_ (vs[i]?=some v) (Th H v t):=Paired.at_ (Paired.aZh (Ths.iff.mp h)) e
noncomputable def LAt (H:Hp)(v:V)(l:List Thing):Prop:=Ex2_ fun a vs=>And3_ (v= .ref a) (H a=some (.lst vs)) (Ths H vs l)
theorem LAt.mono {H H':Hp}{v:V}{l:List Thing}(h:LAt H v l)(s:Same H H'):LAt H' v l:=let ⟨a,vs,e,ha,hv⟩:=h;⟨a,vs,e,s _ _ ha,hv.mono s⟩
noncomputable def sdV:Option Int->V
 |none=> .non
 |some i=> .int i
theorem gZ.sdI {R:Addr->Prop}{H:Hp}{v:V}{o:Option Int}(h:gZ R H v (.sd o)):v=sdV o:=by cases h <;>rfl
theorem gZ.aJl {H:Hp}{v:V}{l:List Thing}(h:gZ T0 H v (.lst (M.bK l))):LAt H v l:=by
 cases h with
 |lst r e k=>exact⟨_,_,rfl,e,k⟩
theorem LAt.fv {H:Hp}{v:V}{l:List Thing}(h:LAt H v l):gZ T0 H v (.lst (M.bK l)):=let ⟨a,vs,e,ha,hv⟩:=h;by subst e;exact .lst trivial ha hv
noncomputable def kk (x:Str):Key:=Sum.inr x
noncomputable def aXl (n:Nat)(w h d:Int):List (Key×V):=[(kk "kind",.str "glyph"),(kk "name",.int n),(kk "width",.int w),(kk "height",.int h),(kk "depth",.int d)]
noncomputable def bB6 (k:Int):List (Key×V):=[(kk "kind",.str "kern"),(kk "size",.int k)]
noncomputable def bB7 (g:Glue):List (Key×V):=[(kk "kind",.str "glue"),(kk "size",.int g.size),(kk "stretch",.int g.stretch),(kk "stretch order",.int g.so),(kk "shrink",.int g.shrink),(kk "shrink order",.int g.sho)]
noncomputable def bB8 (g:Glue)(how:Nat)(v:V):List (Key×V):=[(kk "kind",.str "leaders"),(kk "size",.int g.size),(kk "stretch",.int g.stretch),(kk "stretch order",.int g.so),(kk "shrink",.int g.shrink),(kk "shrink order",.int g.sho),(kk "way",.int how),(kk "repeated",v)]
noncomputable def bDp (p:Int):List (Key×V):=[(kk "kind",.str "penalty"),(kk "cost",.int p)]
noncomputable def bB9 (w h d:Option Int):List (Key×V):=[(kk "kind",.str "rule"),(kk "width",sdV w),(kk "height",sdV h),(kk "depth",sdV d)]
noncomputable def aDr (c:Bool)(w h d:Int)(s:SbThing.Setting)(sh:Int)(v:V):List (Key×V):=[(kk "kind",.str "box"),(kk "direction",.int (flag c)),(kk "width",.int w),(kk "height",.int h),(kk "depth",.int d),(kk "order",.int s.order),(kk "numerator",.int s.num),(kk "denominator",.int s.den),(kk "shift",.int sh),(kk "things",v)]
noncomputable def bBa (va vb vc:V):List (Key×V):=[(kk "kind",.str "disc"),(kk "before",va),(kk "behind",vb),(kk "unparted",vc)]
noncomputable def bDq (v:V):List (Key×V):=[(kk "kind",.str "adjust"),(kk "things",v)]
noncomputable def bBb (c:Nat):List (Key×V):=[(kk "kind",.str "mark"),(kk "class",.int c)]
noncomputable def bDr (c:Nat)(g:Glue)(d cost:Int)(v:V):List (Key×V):=[(kk "kind",.str "insertion"),(kk "class",.int c),(kk "size",.int g.size),(kk "stretch",.int g.stretch),(kk "stretch order",.int g.so),(kk "shrink",.int g.shrink),(kk "shrink order",.int g.sho),(kk "depth",.int d),(kk "cost",.int cost),(kk "things",v)]
noncomputable def bBc (n:Nat):List (Key×V):=[(kk "kind",.str "anchor"),(kk "name",.int n)]
noncomputable def bDs (H:Hp):Thing->List (Key×V)->Prop
 | .glyph n w h d,kvs=>kvs=aXl n w h d
 | .kern k,kvs=>kvs=bB6 k
 | .glue g,kvs=>kvs=bB7 g
 | .leaders g how t,kvs=> ∃v,Th H v t/\kvs=bB8 g how v
 | .penalty p,kvs=>kvs=bDp p
 | .rule w h d,kvs=>kvs=bB9 w h d
 | .box c w h d s sh l,kvs=> ∃v,LAt H v l/\kvs=aDr c w h d s sh v
 | .disc a b c,kvs=> ∃va vb vc,LAt H va a/\LAt H vb b/\LAt H vc c/\kvs=bBa va vb vc
 | .adjust l,kvs=> ∃v,LAt H v l/\kvs=bDq v
 | .mark c,kvs=>kvs=bBb c
 | .insert c g d cost l,kvs=> ∃v,LAt H v l/\kvs=bDr c g d cost v
 | .anchor n,kvs=>kvs=bBc n
theorem gZ.bDt {R:Addr->Prop}{H:Hp}{v:V}{i:Int}(h:gZ R H v (.int i)):v= .int i:=by cases h;rfl
theorem bV.inv {R:Addr->Prop}{H:Hp}{kvs:List (Key×V)}{f:String}{x:M.FV}{r:M.gP}(h:bV R H kvs (.cons f x r)):Ex2_ fun v k2=>And3_ (kvs=(Sum.inr (Str.ofString f),v)::k2) (gZ R H v x) (bV R H k2 r):=by
 cases h with
 |cons a b=>exact⟨_,_,rfl,a,b⟩
theorem bV.aBn {R:Addr->Prop}{H:Hp}{kvs:List (Key×V)}(h:bV R H kvs .nil):kvs=[]:=by
 cases h
 rfl
theorem bV.aV2 {R:Addr->Prop}{H:Hp}{kvs:List (Key×V)}{f:String}{x:Int}{r:M.gP}(h:bV R H kvs (.cons f (.int x) r)):Ex1_ fun k2=>And2_ (kvs=(Sum.inr (Str.ofString f),.int x)::k2) (bV R H k2 r):=by
 obtain⟨v,k2,e,a,b⟩:=h.inv
 rw[a.bDt] at e
 exact⟨k2,e,b⟩
theorem bV.bBd {R:Addr->Prop}{H:Hp}{kvs:List (Key×V)}{f:String}{x:Option Int}{r:M.gP}(h:bV R H kvs (.cons f (.sd x) r)):Ex1_ fun k2=>And2_ (kvs=(Sum.inr (Str.ofString f),sdV x)::k2) (bV R H k2 r):=by
 obtain⟨v,k2,e,a,b⟩:=h.inv
 rw[a.sdI] at e
 exact⟨k2,e,b⟩
noncomputable def fl (l:List (String×Int))(r:M.gP):M.gP:=l.foldr (fun x r=> .cons x.1 (.int x.2) r) r
theorem bV.invs {R:Addr->Prop}{H:Hp}: ∀(l:List (String×Int)){kvs:List (Key×V)}{r:M.gP},bV R H kvs (fl l r)->Ex1_ fun k2=>And2_ (kvs=l.map (fun x=>(Sum.inr (Str.ofString x.1),V.int x.2))++k2) (bV R H k2 r)
 |[],kvs,r,h=>⟨kvs,rfl,h⟩
 |(f,x)::l,kvs,r,h=>by
  obtain⟨k1,e1,h1⟩:=bV.aV2 h
  obtain⟨k2,e2,h2⟩:=bV.invs l h1
  exact⟨k2,by rw[e1,e2];rfl,h2⟩
theorem bBe {R:Addr->Prop}{H:Hp}(o:Option Int):gZ R H (sdV o) (.sd o):=by cases o;exact .sd0;exact .sd1
theorem Th.kv {H:Hp}{v:V}{t:Thing}(h:Th H v t):Ex2_ fun a kvs=>And3_ (v= .ref a) (H a=some (.dK kvs)) (bDs H t kvs):=by
 unfold Th at h
 cases t with
 |glyph n w hh d=>
  rw[M.rawOf] at h
  cases h with
  |mk _ e f0=>
   obtain⟨_,rfl,f4⟩:=bV.invs [("name",(n:Int)),("width",w),("height",hh),("depth",d)] f0
   cases f4.aBn
   exact⟨_,_,rfl,e,rfl⟩
 |kern k=>
  rw[M.rawOf] at h
  cases h with
  |mk _ e f0=>
   obtain⟨_,rfl,f1⟩:=bV.aV2 f0
   cases f1.aBn
   exact⟨_,_,rfl,e,rfl⟩
 |glue g=>
  rw[M.rawOf] at h
  cases h with
  |mk _ e f0=>
   obtain⟨_,rfl,f5⟩:=bV.invs [("size",g.size),("stretch",g.stretch),("stretch order",(g.so:Int)),("shrink",g.shrink),("shrink order",(g.sho:Int))] f0
   cases f5.aBn
   exact⟨_,_,rfl,e,rfl⟩
 |leaders g how t=>
  rw[M.rawOf] at h
  cases h with
  |mk _ e f0=>
   obtain⟨_,rfl,f6⟩:=bV.invs [("size",g.size),("stretch",g.stretch),("stretch order",(g.so:Int)),("shrink",g.shrink),("shrink order",(g.sho:Int)),("way",(how:Int))] f0
   obtain⟨_,_,rfl,y6,f7⟩:=bV.inv f6
   cases y6 with
   |thing z=>
    cases f7.aBn
    exact⟨_,_,rfl,e,_,z,rfl⟩
 |penalty p=>
  rw[M.rawOf] at h
  cases h with
  |mk _ e f0=>
   obtain⟨_,rfl,f1⟩:=bV.aV2 f0
   cases f1.aBn
   exact⟨_,_,rfl,e,rfl⟩
 |rule w hh d=>
  rw[M.rawOf] at h
  cases h with
  |mk _ e f0=>
   obtain⟨_,rfl,f1⟩:=bV.bBd f0
   obtain⟨_,rfl,f2⟩:=bV.bBd f1
   obtain⟨_,rfl,f3⟩:=bV.bBd f2
   cases f3.aBn
   exact⟨_,_,rfl,e,rfl⟩
 |box c w hh d s sh l=>
  rw[M.rawOf] at h
  cases h with
  |mk _ e f0=>
   obtain⟨_,rfl,f8⟩:=bV.invs [("direction",flag c),("width",w),("height",hh),("depth",d),("order",(s.order:Int)),("numerator",s.num),("denominator",(s.den:Int)),("shift",sh)] f0
   obtain⟨_,_,rfl,y8,f9⟩:=bV.inv f8
   cases f9.aBn
   exact⟨_,_,rfl,e,_,y8.aJl,rfl⟩
 |disc a b c=>
  rw[M.rawOf] at h
  cases h with
  |mk _ e f0=>
   obtain⟨_,_,rfl,y0,f1⟩:=bV.inv f0
   obtain⟨_,_,rfl,y1,f2⟩:=bV.inv f1
   obtain⟨_,_,rfl,y2,f3⟩:=bV.inv f2
   cases f3.aBn
   exact⟨_,_,rfl,e,_,_,_,y0.aJl,y1.aJl,y2.aJl,rfl⟩
 |adjust l=>
  rw[M.rawOf] at h
  cases h with
  |mk _ e f0=>
   obtain⟨_,_,rfl,y0,f1⟩:=bV.inv f0
   cases f1.aBn
   exact⟨_,_,rfl,e,_,y0.aJl,rfl⟩
 |mark c=>
  rw[M.rawOf] at h
  cases h with
  |mk _ e f0=>
   obtain⟨_,rfl,f1⟩:=bV.aV2 f0
   cases f1.aBn
   exact⟨_,_,rfl,e,rfl⟩
 |insert c g d cost l=>
  rw[M.rawOf] at h
  cases h with
  |mk _ e f0=>
   obtain⟨_,rfl,f8⟩:=bV.invs [("class",(c:Int)),("size",g.size),("stretch",g.stretch),("stretch order",(g.so:Int)),("shrink",g.shrink),("shrink order",(g.sho:Int)),("depth",d),("cost",cost)] f0
   obtain⟨_,_,rfl,y8,f9⟩:=bV.inv f8
   cases f9.aBn
   exact⟨_,_,rfl,e,_,y8.aJl,rfl⟩
 |anchor n=>
  rw[M.rawOf] at h
  cases h with
  |mk _ e f0=>
   obtain⟨_,rfl,f1⟩:=bV.aV2 f0
   cases f1.aBn
   exact⟨_,_,rfl,e,rfl⟩
theorem Th.mk {H:Hp}{a:Addr}{kvs:List (Key×V)}{t:Thing}(e:H a=some (.dK kvs))(h:bDs H t kvs):Th H (.ref a) t:=by
 unfold Th
 cases t with
 |glyph n w hh d=>
  rw[M.rawOf]
  cases (show kvs=_ from h)
  exact .mk trivial e (.cons .int (.cons .int (.cons .int (.cons .int .nil))))
 |kern k=>
  rw[M.rawOf]
  cases (show kvs=_ from h)
  exact .mk trivial e (.cons .int .nil)
 |glue g=>
  rw[M.rawOf]
  cases (show kvs=_ from h)
  exact .mk trivial e (.cons .int (.cons .int (.cons .int (.cons .int (.cons .int .nil)))))
 |leaders g how t=>
  rw[M.rawOf]
  obtain⟨v6,y6,rfl⟩:=h
  exact .mk trivial e (.cons .int (.cons .int (.cons .int (.cons .int (.cons .int (.cons .int (.cons (.thing y6) .nil)))))))
 |penalty p=>
  rw[M.rawOf]
  cases (show kvs=_ from h)
  exact .mk trivial e (.cons .int .nil)
 |rule w hh d=>
  rw[M.rawOf]
  cases (show kvs=_ from h)
  exact .mk trivial e (.cons (bBe _) (.cons (bBe _) (.cons (bBe _) .nil)))
 |box c w hh d s sh l=>
  rw[M.rawOf]
  obtain⟨v8,y8,rfl⟩:=h
  exact .mk trivial e (.cons .int (.cons .int (.cons .int (.cons .int (.cons .int (.cons .int (.cons .int (.cons .int (.cons y8.fv .nil)))))))))
 |disc a b c=>
  rw[M.rawOf]
  obtain⟨v0,v1,v2,y0,y1,y2,rfl⟩:=h
  exact .mk trivial e (.cons y0.fv (.cons y1.fv (.cons y2.fv .nil)))
 |adjust l=>
  rw[M.rawOf]
  obtain⟨v0,y0,rfl⟩:=h
  exact .mk trivial e (.cons y0.fv .nil)
 |mark c=>
  rw[M.rawOf]
  cases (show kvs=_ from h)
  exact .mk trivial e (.cons .int .nil)
 |insert c g d cost l=>
  rw[M.rawOf]
  obtain⟨v8,y8,rfl⟩:=h
  exact .mk trivial e (.cons .int (.cons .int (.cons .int (.cons .int (.cons .int (.cons .int (.cons .int (.cons .int (.cons y8.fv .nil)))))))))
 |anchor n=>
  rw[M.rawOf]
  cases (show kvs=_ from h)
  exact .mk trivial e (.cons .int .nil)
end Pr
end
section
namespace Pr
open PySem PySem.Spec PyProof.Rows L2 SbThing SbPack
section
variable{K:PySem.W.Frag}{nx bk ct:L2.St->Hp->Prop}{rt:VK}{σ:L2.St}{H:Hp}{te:TE}{g:TG}{tb:TS}{a:Addr}
noncomputable def aJm (J:It)(g:TG)(tb:TS)(D:Ends)(σ:L2.St)(H:Hp):Prop:= ∃W:Nat->Nat->L2.St->Hp->Prop,(∃m,W 0 m σ H)/\ ∀i m σ H,W i m σ H->
 (J.stop i H/\D.nx σ H)\/(J.go i H/\ ∃N:L2.St->Hp->Prop,(∀σ' H',N σ' H'-> ∃m',m'<m/\W (i+1) m' σ' H')/\ ∀x H',J.yld i H x H'->g x σ H' fun σ2 H2=>tb {D with nx:=N,ct:=N,bk:=D.nx} σ2 H2)
theorem vR {D:Ends}(h:te σ H fun x H1=> ∃a,x= .ref a/\(∃xs,SqL K H1 a xs)/\aJm (Itl K a) g tb D σ H1):aTy (aTv K te) g tb D σ H:=h
theorem aDs {D:Ends}(h:te σ H fun x H1=> ∃a,x= .ref a/\(∃xs,SqT K H1 a xs)/\aJm (Itt K a) g tb D σ H1):aTy (bCj K te) g tb D σ H:=h
theorem bBf {D:Ends}{ta:TA}(h:ta σ H fun vs H1=> ∃j:Int,vs=[.int j]/\ -(2^62)<=j/\j<2^62/\aJm (Itr 0 j.toNat) g tb D σ H1):aTy (aTx ta) g tb D σ H:=h
theorem aV3 {D:Ends}{ta:TA}(h:ta σ H fun vs H1=> ∃a xs,vs=[.ref a]/\SqL K H1 a xs/\aJm (Ite K a) g tb D σ H1):aTy (aZd K ta) g tb D σ H:=h
theorem iQ {α:Type}{l:List α}{i:Nat}{x:α}(h:l[i]?=some x):l=l.take i++x::l.drop (i+1)/\l.take (i+1)=l.take i++[x]:=by
 have hi:i<l.length:=(List.getElem?_eq_some_iff.mp h).1
 have e:l[i]=x:=(List.getElem?_eq_some_iff.mp h).2
 constructor
 .rw[<- e,<- List.drop_eq_getElem_cons hi,List.take_append_drop]
 .rw[List.take_add_one,h]
  rfl
theorem aSq {H0:Hp}{vs:List V}{l:List Thing}(ha:H0 a=some (.lst vs))(hv:Ths H0 vs l)(Pv:List Thing->L2.St->Hp->Prop)(h0:Pv [] σ H)(sm: ∀p σ H,Pv p σ H->Same H0 H)
  (step: ∀pre t rest v σ H,l=pre++t::rest->Th H0 v t->Same H0 H->Pv pre σ H->g v σ H fun σ2 H2=>tb ⟨Pv (pre++[t]),rt,nx,Pv (pre++[t])⟩ σ2 H2)
  (done: ∀σ H,Pv l σ H->nx σ H):aJm (Itl K a) g tb ⟨nx,rt,bk,ct⟩ σ H:=by
 have hlen:=hv.len
 refine aLe (K:=K) (a:=a) (xs:=vs) (fun i σ H=>Pv (l.take i) σ H) h0 (fun i σ H _ p=>SqL.of (sm _ _ _ p _ _ ha)) (fun i x σ H hi p=>?_) (fun σ H p=>?_)
 .obtain⟨t,ht,hT⟩:=hv.at_ hi
  obtain⟨e1,e2⟩:=iQ ht
  have:=step (l.take i) t (l.drop (i+1)) x σ H e1 hT (sm _ _ _ p) p
  show g x σ H fun σ2 H2=>tb ⟨Pv (l.take (i+1)),rt,nx,Pv (l.take (i+1))⟩ σ2 H2
  rw[e2]
  exact this
 .have e:l.take vs.length=l:=by rw[hlen,List.take_length]
  rw[e] at p
  exact done σ H p
theorem aSr {vs:List V}(Pv:Nat->L2.St->Hp->Prop)(h0:Pv 0 σ H)(sm: ∀i σ H,Pv i σ H->SqL K H a vs)
  (step: ∀i v σ H,vs[i]?=some v->Pv i σ H->g v σ H fun σ2 H2=>tb ⟨Pv (i+1),rt,nx,Pv (i+1)⟩ σ2 H2)
  (done: ∀σ H,Pv vs.length σ H->nx σ H):aJm (Itl K a) g tb ⟨nx,rt,bk,ct⟩ σ H:=
 aLe (K:=K) (a:=a) (xs:=vs) Pv h0 (fun i σ H _ p=>sm i σ H p) (fun i x σ H hi p=>step i x σ H hi p) done
theorem aV4 {vs:List V}(Pv:Nat->L2.St->Hp->Prop)(h0:Pv 0 σ H)(sm: ∀i σ H,Pv i σ H->SqT K H a vs)
  (step: ∀i v σ H,vs[i]?=some v->Pv i σ H->g v σ H fun σ2 H2=>tb ⟨Pv (i+1),rt,nx,Pv (i+1)⟩ σ2 H2)
  (done: ∀σ H,Pv vs.length σ H->nx σ H):aJm (Itt K a) g tb ⟨nx,rt,bk,ct⟩ σ H:=
 aWu (K:=K) (a:=a) (xs:=vs) Pv h0 (fun i σ H _ p=>sm i σ H p) (fun i x σ H hi p=>step i x σ H hi p) done
theorem forR {lo:Int}{n:Nat}(Pv:Nat->L2.St->Hp->Prop)(h0:Pv 0 σ H)
  (step: ∀i σ H,i<n->Pv i σ H->g (.int (lo+i)) σ H fun σ2 H2=>tb ⟨Pv (i+1),rt,nx,Pv (i+1)⟩ σ2 H2)
  (done: ∀σ H,Pv n σ H->nx σ H):aJm (Itr lo n) g tb ⟨nx,rt,bk,ct⟩ σ H:=aRy Pv h0 step done
end
theorem boot_len:bootBuiltins "len"=some (.builtin "len"):=by decide +kernel
theorem boot_max:bootBuiltins "max"=some (.builtin "max"):=by decide +kernel
theorem boot_min:bootBuiltins "min"=some (.builtin "min"):=by decide +kernel
theorem boot_any:bootBuiltins "any"=some (.builtin "any"):=by decide +kernel
theorem boot_dict:bootBuiltins "dict"=some (.type "dict"):=by decide +kernel
noncomputable def NAt (H:Hp)(v:V)(ns:List Int):Prop:= ∃a,v= .ref a/\H a=some (.lst (ns.map V.int))
theorem qQ {P:Program}{w:World}{K:PySem.W.Frag}{mg:Str->Option Value}{base:Heap}{CX:CXT}{k:Nat}{f:Addr}{fd:FuncData}{ps:List Str}:bJ P w K mg base CX k f fd ps (fun _ _ _ _=>False):=
 ⟨fun _ _ _ _ h=>h.elim,fun _ _ _ _ _ _ _ _ _ _ _ _ _ h=>h.elim⟩
theorem mU {P:Program}{w:World}{K:PySem.W.Frag}{mg:Str->Option Value}{base:Heap}{CX:CXT}{k j:Nat}{f:Addr}{fd:FuncData}{ps:List Str}{sp:Sp}(F:bJ P w K mg base CX k f fd ps sp)(h:k<=j):bJ P w K mg base CX j f fd ps sp:=
 ⟨F.len,fun A outer s H args us vs Q E hr=>F.run A outer s H args us vs Q E (hr.mono h)⟩
theorem aXm (a b:Int):(if b>a then b else a)=max a b:=by
 rw[Int.max_def]
 split <;>split <;>lia
theorem bBg (a b:Int):(if b<a then b else a)=min a b:=by
 rw[Int.min_def]
 split <;>split <;>lia
end Pr
end
section
namespace Pr
open PySem PySem.Spec PyProof.Rows L2 SbThing SbPack
section
variable{P:Program}{w:World}{K:PySem.W.Frag}{mg:Str->Option Value}{base:Heap}(M:Md w K mg)
noncomputable def aP6:Sp:=fun vs H Q _=>Ex1_ fun o=>And2_ (vs=[sdV o]) (Q (.int (o.getD 0)) H)
theorem eV:bJ P w K mg base (CXE P w) 1 M.bT.f M.bT.fd yW aP6:=by
 refine M.bT.F.okE aIx (fun vs H Q E h=>?_) (fun cdv A outer s H vs Q E hr h=>?_)
 .obtain⟨o,rfl,_⟩:=h
  rfl
 .obtain⟨o,rfl,k⟩:=h
  refine⟨_,(aG (aP (lK (aW U5 (pv 0) qW (bD _)) aQ (pv 0)))),?_⟩
  try dsimp only[aFc]
  walk_at "go"
  cases o with
  |none=>
   refine⟨rfl,?_⟩
   walk_at "go"
   exact k
  |some i=>
   refine⟨rfl,?_⟩
   walk_at "go"
   exact k
noncomputable def szf (s:Size):List (Str×V):=[("width",.int s.w),("height",.int s.h),("depth",.int s.d)]
noncomputable def M4 (C:Addr)(H:Hp)(v:V)(s:Size):Prop:=Ex2_ fun p dx=>And2_ (v= .ref p) (H p=some (.ins C dx (szf s)))
theorem M4.mono {C:Addr}{H H':Hp}{v:V}{s:Size}(h:M4 C H v s)(k:Same H H'):M4 C H' v s:=let ⟨p,dx,e,q⟩:=h;⟨p,dx,e,k _ _ q⟩
noncomputable def VH (C:Addr):Sp:=fun vs H Q _=>Ex5_ fun p dx w h d=>And3_ (vs=[.ref p,.int w,.int h,.int d]) (H p=some (.ins C dx [])) (Q .non (upd H p (.ins C dx (szf ⟨w,h,d⟩))))
theorem dJ:bJ P w K mg base (CXE P w) 1 M.cC.f M.cC.fd yV (VH M.dM.C):=by
 refine M.cC.F.okE aIw (fun vs H Q E h=>?_) (fun cdv A outer s H vs Q E hr h=>?_)
 .obtain⟨_,_,_,_,_,rfl,_⟩:=h
  rfl
 .obtain⟨p,dx,w,h,d,rfl,hp,k⟩:=h
  have c:=M.dM.c
  have n1:=M.iK
  have n2:=M.fU
  have n3:=M.kE
  refine⟨_,(aB (fW (pv 0) (pv 1) rfl)
   (aB (fW (pv 0) (pv 2) rfl)
   (aG (fW (pv 0) (pv 3) rfl)))),?_⟩
  try dsimp only[aFc]
  walk_at "go"
  rw[gD,gD]
  exact k
theorem aC7 {H:Hp}{x dx C:Addr}{fs:List (Str×V)}(nx:H x=none)(nd:H dx=none):Same H (upd (upd (upd H dx (.own x)) x (.ins C dx [])) x (.ins C dx fs)):=fun b o e=>by
 rw[gD,aM (aX e nx),aM (aX e nd)]
 exact e
theorem j7 {C:Addr}{H:Hp}{Q:VK}{E:XK}{w h d:Int}(k: ∀v H',Same H H'->M4 C H' v ⟨w,h,d⟩->Q v H'): ∀x dx,H x=none->H dx=none->dx≠x->VH C (.ref x::([.int w,.int h,.int d]++[])) (upd (upd H dx (.own x)) x (.ins C dx [])) (fun v H2=>v= .non/\Q (.ref x) H2) E:=by
 intro x dx nx nd ne
 exact⟨x,dx,w,h,d,rfl,aH,rfl,k _ _ (aC7 nx nd) ⟨x,dx,rfl,aH⟩⟩
noncomputable def aSs:Sp:=fun vs H Q _=>Ex2_ fun v t=>And3_ (vs=[v]) (Th H v t) (Q (.bl (solid t).isSome) H)
theorem nY:bJ P w K mg base (CXE P w) 1 M.cO.f M.cO.fd oK aSs:=by
 refine M.cO.F.okE X3 (fun vs H Q E h=>?_) (fun cdv A outer s H vs Q E hr h=>?_)
 .obtain⟨_,_,rfl,_⟩:=h
  rfl
 .obtain⟨v,t,rfl,hT,k⟩:=h
  refine⟨_,(aG (aP (aV0 (ss:=["box","rule"]) (aZ (bO hr) (pv 0) aN (fun _ _=>rfl)) (.cons ⟨_,_,rfl⟩ (.cons ⟨_,_,rfl⟩ .nil)) (by show 2<=sizeLine;decide)))),?_⟩
  try dsimp only[aFc]
  obtain⟨a,kvs,rfl,ha,kv⟩:=hT.kv
  cases t
  all_goals (first|obtain rfl:kvs=_:=kv|obtain⟨_,_,rfl⟩:=kv|obtain⟨_,_,_,_,_,_,rfl⟩:=kv)
  all_goals (walk_at "go";exact k)
noncomputable def aSt:Sp:=fun vs H Q _=>Ex2_ fun v t=>And3_ (vs=[v]) (Th H v t) (Q (.bl (isGlue t||isKern t)) H)
theorem aB0:bJ P w K mg base (CXE P w) 1 M.pN.f M.pN.fd J2 aSt:=by
 refine M.pN.F.okE aM6 (fun vs H Q E h=>?_) (fun cdv A outer s H vs Q E hr h=>?_)
 .obtain⟨_,_,rfl,_⟩:=h
  rfl
 .obtain⟨v,t,rfl,hT,k⟩:=h
  refine⟨_,(aG (aP (aV0 (ss:=["kern","glue","leaders"]) (aZ (bO hr) (pv 0) aN (fun _ _=>rfl)) (.cons ⟨_,_,rfl⟩ (.cons ⟨_,_,rfl⟩ (.cons ⟨_,_,rfl⟩ .nil))) (by show 3<=sizeLine;decide)))),?_⟩
  try dsimp only[aFc]
  obtain⟨a,kvs,rfl,ha,kv⟩:=hT.kv
  cases t
  all_goals (first|obtain rfl:kvs=_:=kv|obtain⟨_,_,rfl⟩:=kv|obtain⟨_,_,_,_,_,_,rfl⟩:=kv)
  all_goals (walk_at "go";exact k)
end
end Pr
end
section
namespace Pr
open PySem PySem.Spec PyProof.Rows L2 SbThing SbPack
section
variable{P:Program}{w:World}{K:PySem.W.Frag}{mg:Str->Option Value}{base:Heap}(M:Md w K mg)
noncomputable def rowOf (n:Nat)(l:List Thing):Size:=(l.map (inRow (n+1))).foldl beside nothing
theorem aDt (n:Nat)(l:List Thing)(t:Thing):rowOf n (l++[t])=beside (rowOf n l) (inRow (n+1) t):=by
 unfold rowOf
 rw[List.map_append,List.foldl_append]
 rfl
noncomputable def aMo (C:Addr)(n:Nat):Sp:=fun vs H Q _=>Ex2_ fun v t=>And4_ (vs=[v]) (Th H v t) (right n t=true) (∀v' H',Same H H'->M4 C H' v' (inRow (n+1) t)->Q v' H')
noncomputable def aXn (C:Addr)(n:Nat):Sp:=fun vs H Q _=>Ex2_ fun v l=>And4_ (vs=[v]) (LAt H v l) (l.all (right n)=true) (∀v' H',Same H H'->M4 C H' v' (rowOf n l)->Q v' H')
noncomputable def aZi (s:Nat->Sp):Nat->Sp
 |0=>fun _ _ _ _=>False
 |n+1=>s n
theorem aV5 {p:Thing->Bool}{l pre rest:List Thing}{t:Thing}(h:l.all p=true)(e:l=pre++t::rest):p t=true:=by
 subst e
 rw[List.all_append,List.all_cons,Bool.and_eq_true,Bool.and_eq_true] at h
 exact h.2.1
theorem aMp (n:Nat)(GS:bJ P w K mg base (CXE P w) (1+2*n) M.cQ.f M.cQ.fd j8 (aZi (aMo M.dM.C) n))(GR:bJ P w K mg base (CXE P w) (2+2*n) M.gJ.f M.gJ.fd qC (aZi (aXn M.dM.C) n)):
  bJ P w K mg base (CXE P w) (3+2*n) M.cQ.f M.cQ.fd j8 (aMo M.dM.C n):=by
 refine mU (M.cQ.F.okE (k:=2+2*n) rC (fun vs H Q E h=>?_) (fun cdv A outer s H vs Q E hr h=>?_)) (by lia)
 .obtain⟨_,_,rfl,_⟩:=h
  rfl
 .obtain⟨v,t,rfl,hT,hR,k⟩:=h
  refine⟨_,(aB (bF (i:=1) rC.nd rfl (Or.inl rfl) (aZ (bO hr) (pv 0) aN (fun _ _=>rfl)))
   (aB (bR (aW cT (pv 1) aN (bD _)) (aG (aP (dX M.cC.ma (dJ M) (hr.mono (by walk_at "o")) rfl M.dM.m M.cC.b .nil aC (aA (aZ (bO hr) (pv 0) aN (fun _ _=>rfl)) (aA (aZ (bO hr) (pv 0) aN (fun _ _=>rfl)) (aA (aZ (bO hr) (pv 0) aN (fun _ _=>rfl)) aD)))))) bC)
   (aB (bR (PW.pt (aCf (aW cT (pv 1) aN (bD _)) (U0 (aW cT (pv 1) aN (bD _))))) (aG (aP (dX M.cC.ma (dJ M) (hr.mono (by walk_at "o")) rfl M.dM.m M.cC.b .nil aC (aA (aZ (bO hr) (pv 0) aN (fun _ _=>rfl)) (aA aQ (aA aQ aD)))))) bC)
   (aB (bR (aW cT (pv 1) aN (bD _)) (aB (bF (i:=2) rC.nd rfl (Or.inl rfl) (aJ GS (hr.mono (by walk_at "o")) rfl M.cQ.m M.cQ.k M.cQ.b .nil aC (aA (aZ (bO hr) (pv 0) aN (fun _ _=>rfl)) aD)))
   (aG (aP (dX M.cC.ma (dJ M) (hr.mono (by walk_at "o")) rfl M.dM.m M.cC.b .nil aC (aA (aZ (bO hr) (pv 0) aN (fun _ _=>rfl)) (aA (bG (pv 2) rfl) (aA (bG (pv 2) rfl) aD))))))) bC)
   (aB (bR (aW cT (pv 1) aN (bD _)) (aG (aP (dX M.cC.ma (dJ M) (hr.mono (by walk_at "o")) rfl M.dM.m M.cC.b .nil aC (aA (aJ (eV M) (hr.mono (by walk_at "o")) rfl M.bT.m M.bT.k M.bT.b .nil aC (aA (aZ (bO hr) (pv 0) aN (fun _ _=>rfl)) aD)) (aA (aJ (eV M) (hr.mono (by walk_at "o")) rfl M.bT.m M.bT.k M.bT.b .nil aC (aA (aZ (bO hr) (pv 0) aN (fun _ _=>rfl)) aD)) (aA (aJ (eV M) (hr.mono (by walk_at "o")) rfl M.bT.m M.bT.k M.bT.b .nil aC (aA (aZ (bO hr) (pv 0) aN (fun _ _=>rfl)) aD)) aD)))))) bC)
   (aB (bR (aW cT (pv 1) aN (bD _)) (aB (bF (i:=3) rC.nd rfl (Or.inl rfl) (aZ (bO hr) (pv 0) aN (fun _ _=>rfl)))
   (aG (aP (dX M.cC.ma (dJ M) (hr.mono (by walk_at "o")) rfl M.dM.m M.cC.b .nil aC (aA (aZ (bO hr) (pv 0) aN (fun _ _=>rfl)) (aA (cN sZ (aZ (bO hr) (pv 0) aN (fun _ _=>rfl)) (pv 3)) (aA (cN fH (aZ (bO hr) (pv 0) aN (fun _ _=>rfl)) (pv 3)) aD))))))) bC)
   (aB (bR (aW cT (pv 1) aN (bD _)) (aG (aP (aJ GR (hr.mono (by walk_at "o")) rfl M.gJ.m M.gJ.k M.gJ.b .nil aC (aA (aZ (bO hr) (pv 0) aN (fun _ _=>rfl)) aD)))) bC)
   (aG (aP (dX M.cC.ma (dJ M) (hr.mono (by walk_at "o")) rfl M.dM.m M.cC.b .nil aC (aA aQ (aA aQ (aA aQ aD))))))))))))),?_⟩
  try dsimp only[aFc]
  obtain⟨a,kvs,rfl,ha,kv⟩:=hT.kv
  have c:=M.dM.c
  have n1:=M.iK
  have n2:=M.fU
  have n3:=M.kE
  cases t with
  |glyph nm w' h' d'=>
   obtain rfl:kvs=_:=kv
   walk_at "go"
   exact j7 k
  |kern x=>
   obtain rfl:kvs=_:=kv
   walk_at "go"
   exact j7 k
  |glue g=>
   obtain rfl:kvs=_:=kv
   walk_at "go"
   exact j7 k
  |leaders g how t=>
   obtain⟨u,hu,rfl⟩:=kv
   cases n with
   |zero=>cases hR
   |succ m=>
    walk_at "go"
    have hr2:right m t=true:=by
     rw[right,Bool.and_eq_true,Bool.and_eq_true,Bool.and_eq_true,Bool.and_eq_true] at hR
     exact hR.2.2.2.2
    refine⟨u,t,rfl,hu,hr2,fun v' H1 s1 hs=>?_⟩
    obtain⟨p,dx,rfl,hp⟩:=hs
    have ha1:=s1 _ _ ha
    walk_at "go"
    exact j7 fun v' H2 s2 hs2=>k v' H2 (s1.trans s2) hs2
  |penalty x=>
   obtain rfl:kvs=_:=kv
   walk_at "go"
   exact j7 k
  |rule w' h' d'=>
   obtain rfl:kvs=_:=kv
   walk_at "go"
   refine⟨w',rfl,?_⟩
   walk_at "go"
   refine⟨h',rfl,?_⟩
   walk_at "go"
   refine⟨d',rfl,?_⟩
   walk_at "go"
   exact j7 k
  |box cc w' h' d' s' sh l=>
   obtain⟨u,hu,rfl⟩:=kv
   walk_at "go"
   exact j7 k
  |disc a' b' c'=>
   obtain⟨u1,u2,u3,h1,h2,h3,rfl⟩:=kv
   cases n with
   |zero=>cases hR
   |succ m=>
    walk_at "go"
    have hr2:c'.all (right m)=true:=by
     rw[right,Bool.and_eq_true,Bool.and_eq_true] at hR
     exact hR.2.2
    exact⟨u3,c',rfl,h3,hr2,k⟩
  |adjust l=>
   obtain⟨u,hu,rfl⟩:=kv
   walk_at "go"
   exact j7 k
  |mark x=>
   obtain rfl:kvs=_:=kv
   walk_at "go"
   exact j7 k
  |insert cc g d' cost l=>
   obtain⟨u,hu,rfl⟩:=kv
   walk_at "go"
   exact j7 k
  |anchor x=>
   obtain rfl:kvs=_:=kv
   walk_at "go"
   exact j7 k
theorem aR2 (n:Nat)(GS:bJ P w K mg base (CXE P w) (3+2*n) M.cQ.f M.cQ.fd j8 (aMo M.dM.C n)):
  bJ P w K mg base (CXE P w) (4+2*n) M.gJ.f M.gJ.fd qC (aXn M.dM.C n):=by
 refine mU (M.gJ.F.okE (k:=3+2*n) jW (fun vs H Q E h=>?_) (fun cdv A outer s H vs Q E hr h=>?_)) (by lia)
 .obtain⟨_,_,rfl,_⟩:=h
  rfl
 .obtain⟨v,l,rfl,⟨a,vs,rfl,ha,hv⟩,hR,k⟩:=h
  refine⟨_,(aB (bF (i:=1) jW.nd rfl (Or.inl rfl) aQ)
   (aB (bF (i:=2) jW.nd rfl (Or.inl rfl) aQ)
   (aB (bF (i:=3) jW.nd rfl (Or.inl rfl) aQ)
   (aB (lM PassesOwn.«leaving» rfl (nM (pv 0)) (cV (i:=4) jW.nd rfl (Or.inl rfl)) (aB (bF (i:=5) jW.nd rfl (Or.inl rfl) (aJ GS (hr.mono (by walk_at "o")) rfl M.cQ.m M.cQ.k M.cQ.b .nil aC (aA (pv 4) aD)))
   (aB (aTr (i:=1) jW.nd rfl (Or.inl rfl) (bG (pv 5) rfl) aI8)
   (aB (bF (i:=2) jW.nd rfl (Or.inl rfl) (dF (R7 rfl) rfl M.aMn boot_max (aA (pv 2) (aA (bG (pv 5) rfl) aD))))
   (aG (bF (i:=3) jW.nd rfl (Or.inl rfl) (dF (R7 rfl) rfl M.aMn boot_max (aA (pv 3) (aA (bG (pv 5) rfl) aD)))))))))
   (aG (aP (dX M.cC.ma (dJ M) (hr.mono (by walk_at "o")) rfl M.dM.m M.cC.b .nil aC (aA (pv 1) (aA (pv 2) (aA (pv 3) aD)))))))))),?_⟩
  try dsimp only[aFc]
  have c:=M.dM.c
  have n1:=M.iK
  have n2:=M.fU
  have n3:=M.kE
  walk_at "go"
  refine vR ?_
  walk_at "go"
  refine⟨a,rfl,⟨_,SqL.of ha⟩,aSq ha hv (fun pre σ H'=>Same H H'/\ ∃x y,σ=[some (.ref a),some (.int (rowOf n pre).w),some (.int (rowOf n pre).h),some (.int (rowOf n pre).d),x,y]) ⟨.refl H,none,none,rfl⟩ (fun _ _ _ p=>p.1) ?_ ?_⟩
  .rintro pre t rest v σ H1 el hT s1 ⟨_,x,y,rfl⟩
   walk_at "go"
   refine⟨v,t,rfl,hT.mono s1,aV5 hR el,fun v' H2 s2 hs=>?_⟩
   obtain⟨p,dx,rfl,hp⟩:=hs
   walk_at "go"
   refine⟨s1.trans s2,some v,some (.ref p),?_⟩
   rw[aDt]
   unfold beside
   rw[<- aXm,<- aXm]
   rfl
  .rintro σ H1 ⟨s1,x,y,rfl⟩
   walk_at "go"
   exact j7 fun v' H2 s2 hs=>k v' H2 (s1.trans s2) hs
theorem YF: ∀n:Nat,bJ P w K mg base (CXE P w) (3+2*n) M.cQ.f M.cQ.fd j8 (aMo M.dM.C n)/\bJ P w K mg base (CXE P w) (4+2*n) M.gJ.f M.gJ.fd qC (aXn M.dM.C n)
 |0=>let h:=aMp M 0 qQ qQ;⟨h,aR2 M 0 h⟩
 |n+1=>let h:=aMp M (n+1) (mU (YF n).1 (by lia)) (mU (YF n).2 (by lia));⟨h,aR2 M (n+1) h⟩
end
end Pr
end
section
namespace Pr
open PySem PySem.Spec PyProof.Rows L2 SbThing SbPack
noncomputable def dl:HO->Bool
 | .dK _=>true
 | .lst _=>true
 |_=>false
noncomputable def Kp (H H':Hp):Prop:= ∀b o,H b=some o->dl o=true->H' b=some o
noncomputable def Dl (H:Hp)(b:Addr):Prop:=Ex1_ fun o=>And2_ (H b=some o) (dl o=true)
mutual
theorem eX.dl {R:Addr->Prop}{H:Hp}: ∀{v:V}{r:M.Raw},eX R H v r->eX (Dl H) H v r
 |_,_,.mk _ h hf=> .mk ⟨_,h,rfl⟩ h (bV.dl hf)
theorem bV.dl {R:Addr->Prop} {H:Hp}: ∀{kvs:List (Key×V)}{fs:M.gP},bV R H kvs fs->bV (Dl H) H kvs fs
 |_,_,.nil=> .nil
 |_,_,.cons h t=> .cons (gZ.dl h) (bV.dl t)
theorem gZ.dl {R:Addr->Prop} {H:Hp}: ∀{v:V}{x:M.FV},gZ R H v x->gZ (Dl H) H v x
 |_,_,.int=> .int
 |_,_,.sd0=> .sd0
 |_,_,.sd1=> .sd1
 |_,_,.lst _ h t=> .lst ⟨_,h,rfl⟩ h (d7.dl t)
 |_,_,.thing h=> .thing (eX.dl h)
theorem d7.dl {R:Addr->Prop} {H:Hp}: ∀{vs:List V}{l:M.fD},d7 R H vs l->d7 (Dl H) H vs l
 |_,_,.nil=> .nil
 |_,_,.cons h t=> .cons (eX.dl h) (d7.dl t)
end
theorem aZj {H H':Hp}(k:Kp H H'): ∀b o,Dl H b->H b=some o->T0 b/\H' b=some o:=fun b o⟨o',e,d⟩ h=>⟨trivial,k b o h (by rw[e] at h;cases h;exact d)⟩
theorem Th.kp {H H':Hp}{v:V}{t:Thing}(h:Th H v t)(k:Kp H H'):Th H' v t:=eX.imp (aZj k) (eX.dl h)
theorem Ths.kp {H H':Hp}{v:List V}{t:List Thing}(h:Ths H v t)(k:Kp H H'):Ths H' v t:=d7.imp (aZj k) (d7.dl h)
theorem LAt.kp {H H':Hp}{v:V}{l:List Thing}(h:LAt H v l)(k:Kp H H'):LAt H' v l:=let ⟨a,vs,e,ha,hv⟩:=h;⟨a,vs,e,k _ _ ha rfl,hv.kp k⟩
theorem Kp.same {H H':Hp}(s:Same H H'):Kp H H':=fun b o h _=>s b o h
theorem Kp.ins {H:Hp}{p C dx:Addr}{fs:List (Str×V)}{o:HO}(h:H p=some (.ins C dx fs)):Kp H (upd H p o):=fun b u e d=>by
 rw[aM (fun z=>by subst z;rw[h] at e;cases e;cases d)]
 exact e
theorem lV {H0 H:Hp}{p:Addr}{o:HO}(s:Same H0 H)(n:H0 p=none):Same H0 (upd H p o):=fun b u e=>by
 rw[aM (aX e n)]
 exact s b u e
theorem aHa {H H':Hp}(e:Same H H'){l:Addr}(h:H' l=none):H l=none:=Same.free e h
theorem foldl_max (l:List Int)(x m:Int):(l++[x]).foldl max m=max (l.foldl max m) x:=by
 rw[List.foldl_append]
 rfl
theorem aXo (l:List Thing)(t:Thing):columnWidth (l++[t])=max (columnWidth l) (wideOf t):=by
 unfold columnWidth
 rw[List.map_append]
 exact foldl_max _ _ _
theorem aV6 (l:List Int)(x:Int):(l++[x]).sum=l.sum+x:=by
 rw[List.sum_append]
 simp
theorem aJn (l:List Thing)(t:Thing):columnSum (l++[t])=columnSum l+inColumn t:=by
 unfold columnSum
 rw[List.map_append]
 exact aV6 _ _
theorem aR3 (l:List Thing)(t:Thing):lastDepth (l++[t])=if(solid t).isSome=true then((solid t).map fun(x:Int×Int)=>x.2).getD 0 else if(isGlue t||isKern t)=true then 0 else lastDepth l:=by
 unfold lastDepth
 rw[List.reverse_append]
 show (match List.find? _ (t::l.reverse) with|some t=>_|none=>_)=_
 rw[List.find?_cons]
 by_cases h1:(solid t).isSome=true
 .rw[if_pos h1,h1,Bool.true_or]
 .rw[if_neg h1]
  have e:(solid t).isSome=false:=by simpa using h1
  rw[e,Bool.false_or]
  by_cases h2:(isGlue t||isKern t)=true
  .rw[if_pos h2,h2]
   have e2:solid t=none:=by simpa using e
   show ((solid t).map _).getD 0=0
   rw[e2]
   rfl
  .rw[if_neg h2]
   have e2:(isGlue t||isKern t)=false:=by simpa using h2
   rw[e2]
   rfl
end Pr
end
section
namespace Pr
open PySem PySem.Spec PyProof.Rows L2 SbThing SbPack
section
variable{P:Program}{w:World}{K:PySem.W.Frag}{mg:Str->Option Value}{base:Heap}(M:Md w K mg)
noncomputable def Rt (t:Thing):Prop:= ∃n,right n t=true
noncomputable def aXp:Sp:=fun vs H Q _=>Ex2_ fun v t=>And4_ (vs=[v]) (Th H v t) (_root_.M.ZG t=false) (Q (.int (wideOf t)) H)
noncomputable def bBh:Sp:=fun vs H Q _=>Ex2_ fun v t=>And4_ (vs=[v]) (Th H v t) (Rt t) (Q (.int (wideOf t)) H)
theorem aV7:bJ P w K mg base (CXE P w) 2 M.cB.f M.cB.fd iT aXp:=by
 have GA:bJ P w K mg base (CXE P w) 1 M.cB.f M.cB.fd iT (fun _ _ _ _=>False):=qQ
 refine M.cB.F.okE lY (fun vs H Q E h=>?_) (fun cdv A outer s H vs Q E hr h=>?_)
 .obtain⟨_,_,rfl,_⟩:=h
  rfl
 .obtain⟨v,t,rfl,hT,hL,k⟩:=h
  refine⟨_,(aB (bF (i:=1) lY.nd rfl (Or.inl rfl) (aZ (bO hr) (pv 0) aN (fun _ _=>rfl)))
   (aB (bR (aW cT (pv 1) aN (bD _)) (aG (aP (cN fH (aZ (bO hr) (pv 0) aN (fun _ _=>rfl)) (aZ (bO hr) (pv 0) aN (fun _ _=>rfl))))) bC)
   (aB (bR (aW cT (pv 1) aN (bD _)) (aG (aP (aJ (eV M) (hr.mono (by walk_at "o")) rfl M.bT.m M.bT.k M.bT.b .nil aC (aA (aZ (bO hr) (pv 0) aN (fun _ _=>rfl)) aD)))) bC)
   (aB (bR (aW cT (pv 1) aN (bD _)) (aG (aP (aJ GA (hr.mono (by walk_at "o")) rfl M.cB.m M.cB.k M.cB.b .nil aC (aA (aZ (bO hr) (pv 0) aN (fun _ _=>rfl)) aD)))) bC)
   (aG (aP aQ)))))),?_⟩
  try dsimp only[aFc]
  obtain⟨a,kvs,rfl,ha,kv⟩:=hT.kv
  cases t with
  |rule w' h' d'=>
   obtain rfl:kvs=_:=kv
   walk_at "go"
   exact⟨w',rfl,k⟩
  |leaders g how t=>cases hL
  |_=>
   first|obtain rfl:kvs=_:=kv|obtain⟨_,_,rfl⟩:=kv|obtain⟨_,_,_,_,_,_,rfl⟩:=kv
   walk_at "go"
   exact k
theorem bBi {g:Glue}{how:Nat}{t:Thing}(h:Rt (.leaders g how t)):repeated t=true/\Rt t:=by
 obtain⟨n,h⟩:=h
 cases n with
 |zero=>cases h
 |succ m=>
  rw[right,Bool.and_eq_true,Bool.and_eq_true,Bool.and_eq_true,Bool.and_eq_true] at h
  exact⟨h.2.2.1,m,h.2.2.2.2⟩
theorem VJ:bJ P w K mg base (CXE P w) 3 M.cB.f M.cB.fd iT bBh:=by
 refine M.cB.F.okE lY (fun vs H Q E h=>?_) (fun cdv A outer s H vs Q E hr h=>?_)
 .obtain⟨_,_,rfl,_⟩:=h
  rfl
 .obtain⟨v,t,rfl,hT,hL,k⟩:=h
  refine⟨_,(aB (bF (i:=1) lY.nd rfl (Or.inl rfl) (aZ (bO hr) (pv 0) aN (fun _ _=>rfl)))
   (aB (bR (aW cT (pv 1) aN (bD _)) (aG (aP (cN fH (aZ (bO hr) (pv 0) aN (fun _ _=>rfl)) (aZ (bO hr) (pv 0) aN (fun _ _=>rfl))))) bC)
   (aB (bR (aW cT (pv 1) aN (bD _)) (aG (aP (aJ (eV M) (hr.mono (by walk_at "o")) rfl M.bT.m M.bT.k M.bT.b .nil aC (aA (aZ (bO hr) (pv 0) aN (fun _ _=>rfl)) aD)))) bC)
   (aB (bR (aW cT (pv 1) aN (bD _)) (aG (aP (aJ (aV7 M) (hr.mono (by walk_at "o")) rfl M.cB.m M.cB.k M.cB.b .nil aC (aA (aZ (bO hr) (pv 0) aN (fun _ _=>rfl)) aD)))) bC)
   (aG (aP aQ)))))),?_⟩
  try dsimp only[aFc]
  obtain⟨a,kvs,rfl,ha,kv⟩:=hT.kv
  cases t with
  |rule w' h' d'=>
   obtain rfl:kvs=_:=kv
   walk_at "go"
   exact⟨w',rfl,k⟩
  |leaders g how t=>
   obtain⟨u,hu,rfl⟩:=kv
   obtain⟨hr1,_⟩:=bBi hL
   walk_at "go"
   cases t with
   |box _ _ _ _ _ _ _=>exact⟨u,_,rfl,hu,rfl,k⟩
   |rule _ _ _=>exact⟨u,_,rfl,hu,rfl,k⟩
   |_=>cases hr1
  |_=>
   first|obtain rfl:kvs=_:=kv|obtain⟨_,_,rfl⟩:=kv|obtain⟨_,_,_,_,_,_,rfl⟩:=kv
   walk_at "go"
   exact k
noncomputable def bDu:Sp:=fun vs H Q _=>Ex2_ fun v t=>And3_ (vs=[v]) (Th H v t) (Q (.int (inColumn t)) H)
theorem pB:bJ P w K mg base (CXE P w) 2 M.cR.f M.cR.fd lZ bDu:=by
 refine M.cR.F.okE S6 (fun vs H Q E h=>?_) (fun cdv A outer s H vs Q E hr h=>?_)
 .obtain⟨_,_,rfl,_⟩:=h
  rfl
 .obtain⟨v,t,rfl,hT,k⟩:=h
  refine⟨_,(aB (bR (nZ (aJ (nY M) (hr.mono (by walk_at "o")) rfl M.cO.m M.cO.k M.cO.b .nil aC (aA (pv 0) aD))) (aG (aP (cN fH (aJ (eV M) (hr.mono (by walk_at "o")) rfl M.bT.m M.bT.k M.bT.b .nil aC (aA (aZ (bO hr) (pv 0) aN (fun _ _=>rfl)) aD)) (aJ (eV M) (hr.mono (by walk_at "o")) rfl M.bT.m M.bT.k M.bT.b .nil aC (aA (aZ (bO hr) (pv 0) aN (fun _ _=>rfl)) aD))))) bC)
   (aB (bR (nZ (aJ (aB0 M) (hr.mono (by walk_at "o")) rfl M.pN.m M.pN.k M.pN.b .nil aC (aA (pv 0) aD))) (aG (aP (aZ (bO hr) (pv 0) aN (fun _ _=>rfl)))) bC)
   (aG (aP aQ)))),?_⟩
  try dsimp only[aFc]
  have hT':=hT
  obtain⟨a,kvs,rfl,ha,kv⟩:=hT'.kv
  walk_at "go"
  refine⟨_,t,rfl,hT,?_⟩
  cases t with
  |rule w' h' d'=>
   obtain rfl:kvs=_:=kv
   walk_at "go"
   refine⟨h',rfl,?_⟩
   walk_at "go"
   refine⟨d',rfl,?_⟩
   walk_at "go"
   exact k
  |box cc w' h' d' s' sh l=>
   obtain⟨u,hu,rfl⟩:=kv
   walk_at "go"
   refine⟨some h',rfl,?_⟩
   walk_at "go"
   refine⟨some d',rfl,?_⟩
   walk_at "go"
   exact k
  |_=>
   first|obtain rfl:kvs=_:=kv|obtain⟨_,_,rfl⟩:=kv|obtain⟨_,_,_,_,_,_,rfl⟩:=kv
   walk_at "go"
   refine⟨_,_,rfl,hT,?_⟩
   walk_at "go"
   exact k
theorem GP {C:Addr}{H:Hp}{Q:Addr->Hp->Prop}{E:XK}{w h d:Int}(k: ∀x H',Same H H'->M4 C H' (.ref x) ⟨w,h,d⟩->Q x H'): ∀x dx,H x=none->H dx=none->dx≠x->VH C (.ref x::([.int w,.int h,.int d]++[])) (upd (upd H dx (.own x)) x (.ins C dx [])) (fun v H2=>v= .non/\Q x H2) E:=by
 intro x dx nx nd ne
 exact⟨x,dx,w,h,d,rfl,aH,rfl,k _ _ (aC7 nx nd) ⟨x,dx,rfl,aH⟩⟩
noncomputable def clf (x y z:Int):List (Str×V):=[("width",.int x),("length",.int y),("last_depth",.int z)]
noncomputable def aSu (C:Addr)(H:Hp)(p:Addr)(l:List Thing):Prop:= ∃dx,H p=some (.ins C dx (clf (columnWidth l) (columnSum l) (lastDepth l)))
noncomputable def aMq (C:Addr):Sp:=fun vs H Q _=>Ex2_ fun p dx=>And3_ (vs=[.ref p]) (H p=some (.ins C dx [])) (Q .non (upd H p (.ins C dx (clf 0 0 0))))
theorem sY:bJ P w K mg base (CXE P w) 1 M.eF.f M.eF.fd jX (aMq M.bI.C):=by
 refine M.eF.F.okE LC (fun vs H Q E h=>?_) (fun cdv A outer s H vs Q E hr h=>?_)
 .obtain⟨_,_,rfl,_⟩:=h
  rfl
 .obtain⟨p,dx,rfl,hp,k⟩:=h
  have c:=M.bI.c
  have n1:=M.kI
  have n2:=M.jN
  have n3:=M.gR
  refine⟨_,(aB (fW (pv 0) aQ rfl)
   (aB (fW (pv 0) aQ rfl)
   (aG (fW (pv 0) aQ rfl)))),?_⟩
  try dsimp only[aFc]
  walk_at "go"
  rw[gD,gD]
  exact k
noncomputable def aXq (C:Addr):Sp:=fun vs H Q _=>Ex4_ fun p v t l=>And5_ (vs=[.ref p,v]) (aSu C H p l) (Th H v t) (Rt t) (∀o,aSu C (upd H p o) p (l++[t])->Q .non (upd H p o))
theorem pQ:bJ P w K mg base (CXE P w) 4 M.d8.f M.d8.fd iU (aXq M.bI.C):=by
 refine M.d8.F.okE zZ (fun vs H Q E h=>?_) (fun cdv A outer s H vs Q E hr h=>?_)
 .obtain⟨_,_,_,_,rfl,_⟩:=h
  rfl
 .obtain⟨p,v,t,l,rfl,⟨dx,hp⟩,hT,hR,k⟩:=h
  have c:=M.bI.c
  have n1:=M.kI
  have n2:=M.jN
  have n3:=M.gR
  refine⟨_,(aB (fW (pv 0) (dF (R7 rfl) rfl M.aMn boot_max (aA (bG (pv 0) rfl) (aA (aJ (VJ M) (hr.mono (by walk_at "o")) rfl M.cB.m M.cB.k M.cB.b .nil aC (aA (pv 1) aD)) aD))) rfl)
   (aB (R8 (pv 0) (aJ (pB M) (hr.mono (by walk_at "o")) rfl M.cR.m M.cR.k M.cR.b .nil aC (aA (pv 1) aD)) aIb)
   (aG (bR (nZ (aJ (nY M) (hr.mono (by walk_at "o")) rfl M.cO.m M.cO.k M.cO.b .nil aC (aA (pv 1) aD))) (aG (fW (pv 0) (aJ (eV M) (hr.mono (by walk_at "o")) rfl M.bT.m M.bT.k M.bT.b .nil aC (aA (aZ (bO hr) (pv 1) aN (fun _ _=>rfl)) aD)) rfl)) (aG (bR (nZ (aJ (aB0 M) (hr.mono (by walk_at "o")) rfl M.pN.m M.pN.k M.pN.b .nil aC (aA (pv 1) aD))) (aG (fW (pv 0) aQ rfl)) bC)))))),?_⟩
  try dsimp only[aFc]
  walk_at "go"
  refine⟨v,t,rfl,hT,hR,?_⟩
  walk_at "go"
  have hT1:=hT.kp (Kp.ins (o:= .ins M.bI.C dx (lX "width" (.int (if wideOf t>columnWidth l then wideOf t else columnWidth l)) (clf (columnWidth l) (columnSum l) (lastDepth l)))) hp)
  refine⟨v,t,rfl,hT1,?_⟩
  walk_at "go"
  rw[gD]
  have hT2:=hT.kp (Kp.ins (o:= .ins M.bI.C dx (clf (columnWidth (l++[t])) (columnSum (l++[t])) (lastDepth l))) hp)
  have e2:lX "length" (V.int (columnSum l+inColumn t)) (lX "width" (V.int (if wideOf t>columnWidth l then wideOf t else columnWidth l)) (clf (columnWidth l) (columnSum l) (lastDepth l)))=clf (columnWidth (l++[t])) (columnSum (l++[t])) (lastDepth l):=by
   rw[aXo,aJn,<- aXm]
   rfl
  rw[e2]
  refine⟨v,t,rfl,hT2,?_⟩
  walk_at "go"
  have hl:=aR3 l t
  obtain⟨a,kvs,rfl,ha,kv⟩:=hT2.kv
  refine eN (fun h1=>?_) (fun h1=>?_)
  .rw[if_pos h1] at hl
   cases t with
   |rule w' h' d'=>
    obtain rfl:kvs=_:=kv
    walk_at "go"
    refine⟨d',rfl,?_⟩
    walk_at "go"
    rw[gD]
    refine k _ ⟨dx,?_⟩
    rw[aH,hl]
    rfl
   |box cc w' h' d' s' sh l2=>
    obtain⟨u,hu,rfl⟩:=kv
    walk_at "go"
    refine⟨some d',rfl,?_⟩
    walk_at "go"
    rw[gD]
    refine k _ ⟨dx,?_⟩
    rw[aH,hl]
    rfl
   |_=>cases h1
  .rw[if_neg h1] at hl
   walk_at "go"
   refine⟨_,t,rfl,hT2,?_⟩
   walk_at "go"
   refine eN (fun h2=>?_) (fun h2=>?_)
   .rw[if_pos h2] at hl
    walk_at "go"
    rw[gD]
    refine k _ ⟨dx,?_⟩
    rw[aH,hl]
    rfl
   .rw[if_neg h2] at hl
    walk_at "go"
    refine k _ ⟨dx,?_⟩
    rw[aH,hl]
noncomputable def sO (l:List Thing)(g:Int):Size:=⟨columnWidth l,columnSum l-columnDepth l g,columnDepth l g⟩
noncomputable def aV8 (C S:Addr):Sp:=fun vs H Q _=>Ex3_ fun p l g=>And3_ (vs=[.ref p,.int g]) (aSu C H p l) (∀v' H',Same H H'->M4 S H' v' (sO l g)->Q v' H')
theorem jK:bJ P w K mg base (CXE P w) 3 M.cA.f M.cA.fd dO (aV8 M.bI.C M.dM.C):=by
 refine M.cA.F.okE fX (fun vs H Q E h=>?_) (fun cdv A outer s H vs Q E hr h=>?_)
 .obtain⟨_,_,_,rfl,_⟩:=h
  rfl
 .obtain⟨p,l,g,rfl,⟨dx,hp⟩,k⟩:=h
  have c:=M.bI.c
  have n1:=M.kI
  have n2:=M.jN
  have n3:=M.gR
  refine⟨_,(aB (bF (i:=2) fX.nd rfl (Or.inl rfl) (bG (pv 0) rfl))
   (aB (bR (aW aU4 (pv 1) aQ (bD _)) (aG (bF (i:=2) fX.nd rfl (Or.inl rfl) (dF (Z6 rfl) rfl M.aQv boot_min (aA (pv 2) (aA (pv 1) aD))))) bC)
   (aG (aP (dX M.cC.ma (dJ M) (hr.mono (by walk_at "o")) rfl M.dM.m M.cC.b .nil aC (aA (bG (pv 0) rfl) (aA (cN sZ (bG (pv 0) rfl) (pv 2)) (aA (pv 2) aD)))))))),?_⟩
  try dsimp only[aFc]
  walk_at "go"
  unfold sO columnDepth at k
  refine eN (fun h1=>?_) (fun h1=>?_)
  .have h1:0<=g:=of_decide_eq_true h1
   rw[if_neg (by lia),Int.min_comm,<- bBg] at k
   walk_at "go"
   exact j7 k
  .have h1: ¬0<=g:=fun z=>h1 (decide_eq_true z)
   rw[if_pos (by lia)] at k
   walk_at "go"
   exact j7 k
noncomputable def aSv (S:Addr):Sp:=fun vs H Q _=>Ex3_ fun v l g=>And4_ (vs=[v,.int g]) (LAt H v l) ((∀t∈l,Rt t)) (∀v' H',Same H H'->M4 S H' v' (sO l g)->Q v' H')
theorem aZk {C:Addr}{H:Hp}{Q:Addr->Hp->Prop}{E:XK}(k: ∀p H',H p=none->Same H H'->aSu C H' p []->Q p H'): ∀x dx,H x=none->H dx=none->dx≠x->aMq C (.ref x::([]++[])) (upd (upd H dx (.own x)) x (.ins C dx [])) (fun v H2=>v= .non/\Q x H2) E:=by
 intro x dx nx nd ne
 exact⟨x,dx,rfl,aH,rfl,k _ _ nx (aC7 nx nd) ⟨dx,aH⟩⟩
theorem QG:bJ P w K mg base (CXE P w) 5 M.jD.f M.jD.fd uH (aSv M.dM.C):=by
 refine M.jD.F.okE xO (fun vs H Q E h=>?_) (fun cdv A outer s H vs Q E hr h=>?_)
 .obtain⟨_,_,_,rfl,_⟩:=h
  rfl
 .obtain⟨v,l,g,rfl,⟨a,vs,rfl,ha,hv⟩,hR,k⟩:=h
  refine⟨_,(aB (bF (i:=2) xO.nd rfl (Or.inl rfl) (uX M.eF.ma (sY M) (hr.mono (by walk_at "o")) rfl M.bI.m M.eF.b .nil aC))
   (aB (lM PassesOwn.«leaving» rfl (nM (pv 0)) (cV (i:=3) xO.nd rfl (Or.inl rfl)) (aG (bQ (dN (pv 2) M.bI.c M.d8.m (pQ M) (hr.mono (by walk_at "o")) M.d8.b .nil aC (aA (pv 3) aD)))))
   (aG (aP (dN (pv 2) M.bI.c M.cA.m (jK M) (hr.mono (by walk_at "o")) M.cA.b .nil aC (aA (pv 1) aD)))))),?_⟩
  try dsimp only[aFc]
  walk_at "go"
  refine aZk fun p H1 np s1 c1=>?_
  walk_at "go"
  refine vR ?_
  walk_at "go"
  refine⟨a,rfl,⟨_,SqL.of (s1 _ _ ha)⟩,aSq ha hv (fun pre σ H'=>Same H H'/\aSu M.bI.C H' p pre/\ ∃x,σ=[some (.ref a),some (.int g),some (.ref p),x]) ⟨s1,c1,none,rfl⟩ (fun _ _ _ p=>p.1) ?_ ?_⟩
  .rintro pre t rest v σ H2 el hT s2 ⟨_,c2,x,rfl⟩
   walk_at "go"
   have c3:=c2
   obtain⟨dx,hp⟩:=c3
   walk_at "go"
   refine⟨p,v,t,pre,rfl,c2,hT.mono s2,hR t (by rw[el];simp),fun o c3=>?_⟩
   walk_at "go"
   exact⟨lV s2 np,c3,some v,rfl⟩
  .rintro σ H2 ⟨s2,c2,x,rfl⟩
   have c3:=c2
   obtain⟨dx,hp⟩:=c3
   walk_at "go"
   exact⟨p,l,g,rfl,c2,fun v' H3 s3 hs=>k v' H3 (s2.trans s3) hs⟩
end
end Pr
end
section
namespace Pr
open PySem PySem.Spec PyProof.Rows L2 SbThing SbPack
noncomputable def aZl (i j:Int):Prop:=0<j/\j<2^200
theorem vG {X:Cx}:OpR X (binaryOp .FloorDiv) (rI aZl fun i j=> .int (i/j)):=opI fun i j _ _ _ _ _ hc q=>by
 have h1:(0:Int)<j:=hc.1
 refine floordiv_int (by lia) (by rw[Int.fdiv_eq_ediv_of_nonneg i (by lia)];exact q) (.inl (PyProof.noPylong_of_log2 ?_))
 have h2:j.natAbs<2^200:=by have:=hc.2;lia
 have h3:j.natAbs.log2<200:=(Nat.log2_lt (by lia)).mpr h2
 lia
theorem aJo (l:List Thing)(t:Thing)(o:Nat):stretchOf (l++[t]) o=stretchOf l o+match glueOf t with|some g=>if g.so=o then g.stretch else 0|none=>0:=by
 unfold stretchOf
 rw[List.filterMap_append,List.filter_append,List.map_append,List.sum_append]
 congr 1
 cases h:glueOf t with
 |none=>simp[h]
 |some g=>
  by_cases e:g.so=o
  .simp[h,e]
  .simp[h,e]
theorem aJp (l:List Thing)(t:Thing)(o:Nat):shrinkOf (l++[t]) o=shrinkOf l o+match glueOf t with|some g=>if g.sho=o then g.shrink else 0|none=>0:=by
 unfold shrinkOf
 rw[List.filterMap_append,List.filter_append,List.map_append,List.sum_append]
 congr 1
 cases h:glueOf t with
 |none=>simp[h]
 |some g=>
  by_cases e:g.sho=o
  .simp[h,e]
  .simp[h,e]
noncomputable def sts (l:List Thing):List V:=[.int (stretchOf l 0),.int (stretchOf l 1),.int (stretchOf l 2),.int (stretchOf l 3)]
noncomputable def shs (l:List Thing):List V:=[.int (shrinkOf l 0),.int (shrinkOf l 1),.int (shrinkOf l 2),.int (shrinkOf l 3)]
theorem aJq (l:List Thing){o:Nat}(h:o<=3):(sts l)[o]?=some (.int (stretchOf l o)):=by
 match o,h with
 |0,_=>rfl
 |1,_=>rfl
 |2,_=>rfl
 |3,_=>rfl
theorem aJr (l:List Thing){o:Nat}(h:o<=3):(shs l)[o]?=some (.int (shrinkOf l o)):=by
 match o,h with
 |0,_=>rfl
 |1,_=>rfl
 |2,_=>rfl
 |3,_=>rfl
theorem aV9 {l:List Thing}{t:Thing}(h:glueOf t=none):sts (l++[t])=sts l/\shs (l++[t])=shs l:=by
 constructor
 .unfold sts;simp only[aJo,h,Int.add_zero]
 .unfold shs;simp only[aJp,h,Int.add_zero]
theorem aVa {l:List Thing}{t:Thing}{g:Glue}(h:glueOf t=some g)(h3:g.so<=3):(sts l).set g.so (.int (stretchOf l g.so+g.stretch))=sts (l++[t]):=by
 unfold sts
 simp only[aJo,h]
 obtain⟨s,st,so,sh,sho⟩:=g
 match so,h3 with
 |0,_=>simp
 |1,_=>simp
 |2,_=>simp
 |3,_=>simp
theorem aVb {l:List Thing}{t:Thing}{g:Glue}(h:glueOf t=some g)(h3:g.sho<=3):(shs l).set g.sho (.int (shrinkOf l g.sho+g.shrink))=shs (l++[t]):=by
 unfold shs
 simp only[aJp,h]
 obtain⟨s,st,so,sh,sho⟩:=g
 match sho,h3 with
 |0,_=>simp
 |1,_=>simp
 |2,_=>simp
 |3,_=>simp
theorem aC8 {t:Thing}{g:Glue}(h:Rt t)(e:glueOf t=some g):glueOk g=true:=by
 obtain⟨n,h⟩:=h
 cases t with
 |glue g'=>
  cases e
  rw[right] at h
  exact h
 |leaders g' how u=>
  cases e
  cases n with
  |zero=>cases h
  |succ m=>
   rw[right,Bool.and_eq_true] at h
   exact h.1
 |_=>cases e
theorem aHb {g:Glue}(h:glueOk g=true):g.so<=3/\g.sho<=3:=by
 unfold glueOk at h
 simp only[Bool.and_eq_true,decide_eq_true_eq] at h
 exact⟨h.2.2.1,h.2.2.2.2⟩
end Pr
namespace Pr
open PySem PySem.Spec PyProof.Rows L2 SbThing SbPack
noncomputable def aZm (K:PySem.W.Frag):V->V->Hp->VK->Prop:=fun x y H Q=> ∃p xs,∃i:Nat,∃v,x= .ref p/\y= .int i/\SqL K H p xs/\xs[i]?=some v/\Q v H
theorem aMr {X:Cx}:bCi X (aZm X.K):=by
 intro pins s σ H x y v u Q I rx ry h
 obtain⟨p,xs,i,z,rfl,rfl,hq,he,q⟩:=h
 cases rx
 obtain⟨t,rfl⟩:=ry
 obtain⟨its,r,pl,hz⟩:=I.list hq
 obtain⟨w,ew,rw'⟩:=r.get he
 have hl:=r.length
 have hn:=aCn
 have hi:i<xs.length:=(List.getElem?_eq_some_iff.mp he).1
 exact wpAny_getItem_list pl.isList (by lia) (by lia) (by simpa using ew) ⟨z,H,I,rw',q⟩
section
variable{K:PySem.W.Frag}{nx bk ct:L2.St->Hp->Prop}{rt:VK}{σ:L2.St}{H:Hp}{Q:VK}
theorem aJs {to ti te:TE}{tget:V->V->Hp->VK->Prop}{tip:TIp}{tset:aO5}(h:to σ H fun o H1=>ti σ H1 fun i H2=>tget o i H2 fun x H3=>te σ H3 fun y H4=>tip x y H4 fun z H5=>tset o i z H5 fun H6=>nx σ H6):aZ4 to ti te tget tip tset ⟨nx,rt,bk,ct⟩ σ H:=h
theorem aJt {p:Addr}{xs:List V}{i:Nat}{v:V}(hs:SqL K H p xs)(e:xs[i]?=some v)(h:Q v H):aZm K (.ref p) (.int i) H Q:=⟨p,xs,i,v,rfl,rfl,hs,e,h⟩
theorem aXr {n i:Nat}(h:i<n):ixN n (i:Int)=some i:=by
 unfold ixN
 rw[if_pos (by lia),if_pos (by lia)]
 rfl
theorem K9 {p:Addr}{xs:List V}{i:Nat}{v:V}{QH:Hp->Prop}(hs:H p=some (.lst xs))(hi:i<xs.length)(h:QH (upd H p (.lst (xs.set i v)))):aZ8 (.ref p) (.int i) v H QH:=⟨p,xs,i,i,rfl,rfl,hs,aXr hi,h⟩
end
end Pr
end
section
namespace Pr
open PySem PySem.Spec PyProof.Rows L2 SbThing SbPack
section
variable{P:Program}{w:World}{K:PySem.W.Frag}{mg:Str->Option Value}{base:Heap}(M:Md w K mg)
noncomputable def aZn:SbPack.Fit->Int
 | .fits b=>b
 | .full _=>0
noncomputable def excOf:SbPack.Fit->Int
 | .fits _=>0
 | .full a=>a
noncomputable def ftv (a b c d e:Int):List (Str×V):=[("order",.int a),("part",.int b),("total",.int c),("badness",.int d),("excess",.int e)]
noncomputable def aAa (C:Addr)(H:Hp)(v:V)(s:SbThing.Setting)(f:SbPack.Fit):Prop:=Ex2_ fun p dx=>And2_ (v= .ref p) (H p=some (.ins C dx (ftv s.order s.num s.den (aZn f) (excOf f))))
theorem aAa.mono {C:Addr}{H H':Hp}{v:V}{s:SbThing.Setting}{f:SbPack.Fit}(h:aAa C H v s f)(k:Same H H'):aAa C H' v s f:=let ⟨p,dx,e,q⟩:=h;⟨p,dx,e,k _ _ q⟩
noncomputable def aHc (C:Addr):Sp:=fun vs H Q _=>Ex7_ fun p dx a b c d e=>And3_ (vs=[.ref p,.int a,.int b,.int c,.int d,.int e]) (H p=some (.ins C dx [])) (Q .non (upd H p (.ins C dx (ftv a b c d e))))
theorem lW:bJ P w K mg base (CXE P w) 1 M.fZ.f M.fZ.fd IK (aHc M.qU.C):=by
 refine M.fZ.F.okE aLz (fun vs H Q E h=>?_) (fun cdv A outer s H vs Q E hr h=>?_)
 .obtain⟨_,_,_,_,_,_,_,rfl,_⟩:=h
  rfl
 .obtain⟨p,dx,a,b,c',d,e,rfl,hp,k⟩:=h
  have c:=M.qU.c
  have n1:=M.VB
  have n2:=M.aA8
  have n3:=M.VD
  have n4:=M.sJ
  have n5:=M.vD
  refine⟨_,(aB (fW (pv 0) (pv 1) rfl)
   (aB (fW (pv 0) (pv 2) rfl)
   (aB (fW (pv 0) (pv 3) rfl)
   (aB (fW (pv 0) (pv 4) rfl)
   (aG (fW (pv 0) (pv 5) rfl)))))),?_⟩
  try dsimp only[aFc]
  walk_at "go"
  rw[gD,gD,gD,gD]
  exact k
theorem QJ {C:Addr}{H:Hp}{Q:VK}{E:XK}{s:SbThing.Setting}{f:SbPack.Fit}{a b c d e:Int}(k: ∀v H',Same H H'->aAa C H' v s f->Q v H')(h1:(s.order:Int)=a:=by rfl)(h2:s.num=b:=by rfl)(h3:(s.den:Int)=c:=by rfl)(h4:aZn f=d:=by rfl)(h5:excOf f=e:=by rfl):
  ∀x dx,H x=none->H dx=none->dx≠x->aHc C (.ref x::([.int a,.int b,.int c,.int d,.int e]++[])) (upd (upd H dx (.own x)) x (.ins C dx [])) (fun v H2=>v= .non/\Q (.ref x) H2) E:=by
 intro x dx nx nd ne
 subst h1 h2 h3 h4 h5
 exact⟨x,dx,_,_,_,_,_,rfl,aH,rfl,k _ _ (aC7 nx nd) ⟨x,dx,rfl,aH⟩⟩
structure VL (C:Addr)(H:Hp)(p a b:Addr)(l:List Thing):Prop where
 ob: ∃dx,H p=some (.ins C dx [("stretches",.ref a),("shrinks",.ref b)])
 st:H a=some (.lst (sts l))
 sh:H b=some (.lst (shs l))
 ne:a≠b
theorem VL.mono {C:Addr}{H H':Hp}{p a b:Addr}{l:List Thing}(h:VL C H p a b l)(k:Same H H'):VL C H' p a b l:=⟨let ⟨dx,e⟩:=h.ob;⟨dx,k _ _ e⟩,k _ _ h.st,k _ _ h.sh,h.ne⟩
noncomputable def aMs (C:Addr):Sp:=fun vs H Q _=>Ex2_ fun p dx=>And3_ (vs=[.ref p]) (H p=some (.ins C dx [])) (∀H' a b,H a=none->H b=none->VL C H' p a b []->Sb p H H'->Q .non H')
theorem CV:bJ P w K mg base (CXE P w) 1 M.kY.f M.kY.fd wC (aMs M.fL.C):=by
 refine M.kY.F.okE aFg (fun vs H Q E h=>?_) (fun cdv A outer s H vs Q E hr h=>?_)
 .obtain⟨_,_,rfl,_⟩:=h
  rfl
 .obtain⟨p,dx,rfl,hp,k⟩:=h
  have c:=M.fL.c
  have n1:=M.lU
  have n2:=M.oA
  refine⟨_,(aB (fW (pv 0) (cX (aA aQ (aA aQ (aA aQ (aA aQ aD))))) rfl)
   (aG (fW (pv 0) (cX (aA aQ (aA aQ (aA aQ (aA aQ aD))))) rfl))),?_⟩
  try dsimp only[aFc]
  walk_at "go"
  refine⟨by show 4<=sizeLine;decide,fun a na=>?_⟩
  walk_at "go"
  have npa:p≠a:=aX hp na
  have hp1:upd H a (.lst [.int 0,.int 0,.int 0,.int 0]) p=some (.ins M.fL.C dx []):=by rw[aM npa];exact hp
  walk_at "go"
  refine⟨by show 4<=sizeLine;decide,fun b nb=>?_⟩
  have npb:p≠b:=fun z=>by subst z;rw[aH] at nb;cases nb
  have nab:a≠b:=fun z=>by subst z;rw[aM (Ne.symm npa),aH] at nb;cases nb
  have nb':H b=none:=by rw[aM (Ne.symm npb),aM (Ne.symm nab)] at nb;exact nb
  have hp2:upd (upd (upd H a (.lst [.int 0,.int 0,.int 0,.int 0])) p (.ins M.fL.C dx (lX "stretches" (.ref a) []))) b (.lst [.int 0,.int 0,.int 0,.int 0]) p=some (.ins M.fL.C dx (lX "stretches" (.ref a) [])):=by rw[aM npb,aH]
  walk_at "go"
  refine k _ a b na nb' ⟨⟨dx,by rw[aH];rfl⟩,?_,?_,nab⟩ (fun d o hd hne=>?_)
  .rw[aM (Ne.symm npa),aM nab,aM (Ne.symm npa),aH]
   rfl
  .rw[aM (Ne.symm npb),aH]
   rfl
  .rw[aM hne,aM (aX hd nb'),aM hne,aM (aX hd na)]
   exact hd
theorem aVc {C:Addr}{H:Hp}{Q:Addr->Hp->Prop}{E:XK}(k: ∀p a b H',H p=none->H a=none->H b=none->Same H H'->VL C H' p a b []->Q p H'): ∀x dx,H x=none->H dx=none->dx≠x->aMs C (.ref x::([]++[])) (upd (upd H dx (.own x)) x (.ins C dx [])) (fun v H2=>v= .non/\Q x H2) E:=by
 intro x dx nx nd ne
 refine⟨x,dx,rfl,aH,fun H' a b na nb gv sb=>⟨rfl,k x a b H' nx ?_ ?_ (fun d o e=>?_) gv⟩⟩
 .have e1:a≠x:=fun z=>by subst z;rw[aH] at na;cases na
  have e2:a≠dx:=fun z=>by subst z;rw[aM e1,aH] at na;cases na
  rw[aM e1,aM e2] at na
  exact na
 .have e1:b≠x:=fun z=>by subst z;rw[aH] at nb;cases nb
  have e2:b≠dx:=fun z=>by subst z;rw[aM e1,aH] at nb;cases nb
  rw[aM e1,aM e2] at nb
  exact nb
 .refine sb d o ?_ (aX e nx)
  rw[aM (aX e nx),aM (aX e nd)]
  exact e
noncomputable def bBj (a b:Addr)(H H':Hp):Prop:= ∀c o,H c=some o->c≠a->c≠b->H' c=some o
noncomputable def aXs (C:Addr):Sp:=fun vs H Q _=>Ex6_ fun p a b v t l=>And5_ (vs=[.ref p,v]) (VL C H p a b l) (Th H v t) (Rt t) (∀H',VL C H' p a b (l++[t])->bBj a b H H'->Q .non H')
theorem u5:bJ P w K mg base (CXE P w) 1 M.gC.f M.gC.fd pU (aXs M.fL.C):=by
 refine M.gC.F.okE ZJ (fun vs H Q E h=>?_) (fun cdv A outer s H vs Q E hr h=>?_)
 .obtain⟨_,_,_,_,_,_,rfl,_⟩:=h
  rfl
 .obtain⟨p,a,b,v,t,l,rfl,G,hT,hR,k⟩:=h
  have c:=M.fL.c
  have n1:=M.lU
  have n2:=M.oA
  refine⟨_,(aG (bR (bB1 (ss:=["glue","leaders"]) (aZ (bO hr) (pv 1) aN (fun _ _=>rfl)) (.cons ⟨_,_,rfl⟩ (.cons ⟨_,_,rfl⟩ .nil)) (by show 2<=sizeLine;decide)) (aB (aQ3 (bG (pv 0) rfl) (aZ (bO hr) (pv 1) aN (fun _ _=>rfl)) aMr (aZ (bO hr) (pv 1) aN (fun _ _=>rfl)) aI8 set_list)
   (aG (aQ3 (bG (pv 0) rfl) (aZ (bO hr) (pv 1) aN (fun _ _=>rfl)) aMr (aZ (bO hr) (pv 1) aN (fun _ _=>rfl)) aI8 set_list))) bC)),?_⟩
  try dsimp only[aFc]
  obtain⟨⟨dx,hp⟩,hst,hsh,nab⟩:=id G
  obtain⟨d,kvs,rfl,hd,kv⟩:=hT.kv
  have main: ∀g:Glue,glueOf t=some g-> ∀H',H'=upd (upd H a (.lst ((sts l).set g.so (.int (stretchOf l g.so+g.stretch))))) b (.lst ((shs l).set g.sho (.int (shrinkOf l g.sho+g.shrink))))->Q .non H':=by
   intro g hg H' e
   subst e
   obtain⟨z1,z2⟩:=aHb (aC8 hR hg)
   have npa:p≠a:=jO hp hst (by intro z;cases z)
   have npb:p≠b:=jO hp hsh (by intro z;cases z)
   refine k _ ⟨⟨dx,?_⟩,?_,?_,nab⟩ (fun c' o hc h1 h2=>?_)
   .rw[aM npb,aM npa]
    exact hp
   .rw[aM nab,aH,aVa hg z1]
   .rw[aH,aVb hg z2]
   .rw[aM h2,aM h1]
    exact hc
  have nda:d≠a:=jO hd hst (by intro z;cases z)
  have npa:p≠a:=jO hp hst (by intro z;cases z)
  have off:glueOf t=none->Q .non H:=fun hg=>by
   obtain⟨e1,e2⟩:=aV9 (l:=l) hg
   exact k H ⟨⟨dx,hp⟩,by rw[e1];exact hst,by rw[e2];exact hsh,nab⟩ (fun c' o hc _ _=>hc)
  have z3: ∀g,glueOf t=some g->g.so<=3/\g.sho<=3:=fun g hg=>aHb (aC8 hR hg)
  cases t with
  |glue g=>
   obtain rfl:kvs=_:=kv
   obtain⟨z1,z2⟩:=z3 g rfl
   walk_at "go"
   refine aJs ?_
   walk_at "go"
   refine aJt (SqL.of hst) (aJq l z1) ?_
   walk_at "go"
   refine K9 hst (by show g.so<4;lia) ?_
   have hd1:upd H a (.lst ((sts l).set g.so (.int (stretchOf l g.so+g.stretch)))) d=some _:=(aM nda).trans hd
   have hp1:upd H a (.lst ((sts l).set g.so (.int (stretchOf l g.so+g.stretch)))) p=some _:=(aM npa).trans hp
   have hb1:upd H a (.lst ((sts l).set g.so (.int (stretchOf l g.so+g.stretch)))) b=some _:=(aM (Ne.symm nab)).trans hsh
   walk_at "go"
   refine aJs ?_
   walk_at "go"
   refine aJt (SqL.of hb1) (aJr l z2) ?_
   walk_at "go"
   refine K9 hb1 (by show g.sho<4;lia) ?_
   exact main g rfl _ rfl
  |leaders g how t=>
   obtain⟨u,hu,rfl⟩:=kv
   obtain⟨z1,z2⟩:=z3 g rfl
   walk_at "go"
   refine aJs ?_
   walk_at "go"
   refine aJt (SqL.of hst) (aJq l z1) ?_
   walk_at "go"
   refine K9 hst (by show g.so<4;lia) ?_
   have hd1:upd H a (.lst ((sts l).set g.so (.int (stretchOf l g.so+g.stretch)))) d=some _:=(aM nda).trans hd
   have hp1:upd H a (.lst ((sts l).set g.so (.int (stretchOf l g.so+g.stretch)))) p=some _:=(aM npa).trans hp
   have hb1:upd H a (.lst ((sts l).set g.so (.int (stretchOf l g.so+g.stretch)))) b=some _:=(aM (Ne.symm nab)).trans hsh
   walk_at "go"
   refine aJs ?_
   walk_at "go"
   refine aJt (SqL.of hb1) (aJr l z2) ?_
   walk_at "go"
   refine K9 hb1 (by show g.sho<4;lia) ?_
   exact main g rfl _ rfl
  |_=>
   first|obtain rfl:kvs=_:=kv|obtain⟨_,_,rfl⟩:=kv|obtain⟨_,_,_,_,_,_,rfl⟩:=kv
   walk_at "go"
   exact off rfl
end
end Pr
end
section
namespace Pr
open PySem PySem.Spec PyProof.Rows L2 SbThing SbPack
section
variable{P:Program}{w:World}{K:PySem.W.Frag}{mg:Str->Option Value}{base:Heap}(M:Md w K mg)
noncomputable def oV:Option Nat->V
 |none=> .non
 |some o=> .int o
noncomputable def f4 (f:Nat->Int):List V:=[.int (f 0),.int (f 1),.int (f 2),.int (f 3)]
noncomputable def aXt:Sp:=fun vs H Q _=>Ex2_ fun a f=>And3_ (vs=[.ref a]) (H a=some (.lst (f4 f))) (∀H',Same H H'->Q (oV (highest f)) H')
theorem QK:bJ P w K mg base (CXE P w) 1 M.jC.f M.jC.fd uG aXt:=by
 refine M.jC.F.okE NP (fun vs H Q E h=>?_) (fun cdv A outer s H vs Q E hr h=>?_)
 .obtain⟨_,_,rfl,_⟩:=h
  rfl
 .obtain⟨a,f,rfl,ha,k⟩:=h
  refine⟨_,(aB (lM PassesOwn.«leaving» rfl (aCj (aU8 (aA aQ (aA aQ (aA aQ (aA aQ aD)))))) (cV (i:=1) NP.nd rfl (Or.inl rfl)) (aG (bR (aW xK (cJ bM (pv 0) (pv 1) (fun _ _=>rfl)) aQ (bD _)) (aG (aP (pv 1))) bC)))
   (aG (aP qW))),?_⟩
  try dsimp only[aFc]
  walk_at "go"
  refine aDs ?_
  walk_at "go"
  refine⟨by show 4<=sizeLine;decide,fun q nq=>⟨q,rfl,⟨_,SqT.of aH⟩,?_⟩⟩
  refine aV4 (vs:=[.int 3,.int 2,.int 1,.int 0]) (fun i σ H'=>Same H H'/\H' q=some (.tup [.int 3,.int 2,.int 1,.int 0])/\highest f=(([3,2,1,0]:List Nat).drop i).find? (fun(o:Nat)=>decide (0<f o))/\ ∃x,σ=[some (.ref a),x])
   ⟨aU nq _,aH,rfl,none,rfl⟩ (fun i σ H' p=>SqT.of p.2.1) ?_ ?_
  .rintro i v σ H' hi ⟨s1,hq,hf,x,rfl⟩
   have ha1:=s1 _ _ ha
   match i,hi,hf with
   |0,hi,hf=>
    cases hi
    walk_at "go"
    refine cI (SqL.of ha1) (bH (j:=3) rfl) ?_
    walk_at "go"
    rw[show (([3,2,1,0]:List Nat).drop 0)=3::[2,1,0] from rfl,List.find?_cons] at hf
    refine eN (fun c=>?_) (fun c=>?_)
    .rw[c] at hf
     walk_at "go"
     have:=k H' s1
     rw[hf] at this
     exact this
    .rw[Bool.eq_false_iff.mpr c] at hf
     walk_at "go"
     exact⟨s1,hq,hf,_,rfl⟩
   |1,hi,hf=>
    cases hi
    walk_at "go"
    refine cI (SqL.of ha1) (bH (j:=2) rfl) ?_
    walk_at "go"
    rw[show (([3,2,1,0]:List Nat).drop 1)=2::[1,0] from rfl,List.find?_cons] at hf
    refine eN (fun c=>?_) (fun c=>?_)
    .rw[c] at hf
     walk_at "go"
     have:=k H' s1
     rw[hf] at this
     exact this
    .rw[Bool.eq_false_iff.mpr c] at hf
     walk_at "go"
     exact⟨s1,hq,hf,_,rfl⟩
   |2,hi,hf=>
    cases hi
    walk_at "go"
    refine cI (SqL.of ha1) (bH (j:=1) rfl) ?_
    walk_at "go"
    rw[show (([3,2,1,0]:List Nat).drop 2)=1::[0] from rfl,List.find?_cons] at hf
    refine eN (fun c=>?_) (fun c=>?_)
    .rw[c] at hf
     walk_at "go"
     have:=k H' s1
     rw[hf] at this
     exact this
    .rw[Bool.eq_false_iff.mpr c] at hf
     walk_at "go"
     exact⟨s1,hq,hf,_,rfl⟩
   |3,hi,hf=>
    cases hi
    walk_at "go"
    refine cI (SqL.of ha1) (bH (j:=0) rfl) ?_
    walk_at "go"
    rw[show (([3,2,1,0]:List Nat).drop 3)=0::[] from rfl,List.find?_cons] at hf
    refine eN (fun c=>?_) (fun c=>?_)
    .rw[c] at hf
     walk_at "go"
     have:=k H' s1
     rw[hf] at this
     exact this
    .rw[Bool.eq_false_iff.mpr c] at hf
     walk_at "go"
     exact⟨s1,hq,hf,_,rfl⟩
   |n+4,hi,hf=>simp at hi
  .rintro σ H' ⟨s1,hq,hf,x,rfl⟩
   walk_at "go"
   have:=k H' s1
   rw[hf] at this
   exact this
theorem aVd (x t:Int):min 10000 (100*x^3/t^3)=cubed x t:=by
 unfold cubed
 rw[show x^3=x*x*x by rw[Int.pow_succ,Int.pow_succ,Int.pow_succ,Int.pow_zero,Int.one_mul],show t^3=t*t*t by rw[Int.pow_succ,Int.pow_succ,Int.pow_succ,Int.pow_zero,Int.one_mul]]
 rfl
theorem aXu {t:Int}(h0:0<t)(h:t<2^64):0<t^3/\t^3<2^200:=by
 have e:t^3=t*t*t:=by rw[Int.pow_succ,Int.pow_succ,Int.pow_succ,Int.pow_zero,Int.one_mul]
 rw[e]
 have h1:0<t*t:=Int.mul_pos h0 h0
 refine⟨Int.mul_pos h1 h0,?_⟩
 have h2:t*t<=2^64*2^64:=Int.mul_le_mul (Int.le_of_lt h) (Int.le_of_lt h) (Int.le_of_lt h0) (by decide)
 have h3:t*t*t<=2^64*2^64*2^64:=Int.mul_le_mul h2 (Int.le_of_lt h) (Int.le_of_lt h0) (by decide)
 have h4:(2:Int)^64*2^64*2^64<2^200:=by decide
 lia
noncomputable def aXv:Sp:=fun vs H Q _=>Ex2_ fun(x t:Int)=>And6_ (vs=[.int x,.int t]) (0<x) (x<2^63) (0<t) (t<2^63) (Q (.int (cubed x t)) H)
theorem YG:bJ P w K mg base (CXE P w) 1 M.mZ.f M.mZ.fd yS aXv:=by
 refine M.mZ.F.okE aIv (fun vs H Q E h=>?_) (fun cdv A outer s H vs Q E hr h=>?_)
 .obtain⟨_,_,rfl,_⟩:=h
  rfl
 .obtain⟨x,t,rfl,x0,x1,t0,t1,k⟩:=h
  refine⟨_,(aG (aP (dF (Z6 rfl) rfl M.aQv boot_min (aA (dR rfl M.aC4) (aA (cN vG (cN aI9 aQ (cN aU2 (pv 0) aQ)) (cN aU2 (pv 1) aQ)) aD))))),?_⟩
  try dsimp only[aFc]
  walk_at "go"
  refine LR ⟨by decide,by decide,by lia⟩ ?_
  walk_at "go"
  refine LR (.inl ⟨by decide,by decide⟩) ?_
  walk_at "go"
  refine LR ⟨by decide,by decide,by lia⟩ ?_
  have p3:=aXu t0 (by lia:t<2^64)
  refine LR p3 ?_
  walk_at "go"
  rw[bBg,show (3:Int).toNat=3 from rfl,aVd]
  exact k
noncomputable def Bnd (f:Nat->Int):Prop:= ∀o,o<=3-> -(2^63)<f o/\f o<2^63
theorem aR4 {f:Nat->Int}{o:Nat}(h:highest f=some o):o<=3/\0<f o:=by
 unfold highest at h
 have h1:=List.find?_some h
 have h2:=List.mem_of_find?_eq_some h
 simp at h2 h1
 exact⟨by lia,h1⟩
theorem aVe (o:Nat):decide ((0:Int)<(o:Int))=decide (0<o):=decide_eq_decide.mpr (by lia)
noncomputable def aMt (C:Addr):Sp:=fun vs H Q _=>Ex3_ fun a l(x:Int)=>And6_ (vs=[.ref a,.int x]) (H a=some (.lst (sts l))) (0<x) (x<2^63) (Bnd (stretchOf l)) (∀v H',Same H H'->aAa C H' v (setting l x) (fit l x)->Q v H')
theorem aJu:bJ P w K mg base (CXE P w) 3 M.stretched.f M.stretched.fd yU (aMt M.qU.C):=by
 refine M.stretched.F.okE J0 (fun vs H Q E h=>?_) (fun cdv A outer s H vs Q E hr h=>?_)
 .obtain⟨_,_,_,rfl,_⟩:=h
  rfl
 .obtain⟨a,l,x,rfl,ha,x0,x1,hB,k⟩:=h
  refine⟨_,(aB (bF (i:=2) J0.nd rfl (Or.inl rfl) (aJ (QK M) (hr.mono (by walk_at "o")) rfl M.jC.m M.jC.k M.jC.b .nil aC (aA (pv 0) aD)))
   (aB (bR (aW U5 (pv 2) qW (bD _)) (aG (aP (dX M.fZ.ma (lW M) (hr.mono (by walk_at "o")) rfl M.qU.m M.fZ.b .nil aC (aA aQ (aA aQ (aA aQ (aA (dR rfl M.aC4) (aA aQ aD)))))))) bC)
   (aB (bF (i:=3) J0.nd rfl (Or.inl rfl) (cJ bM (pv 0) (pv 2) (fun _ _=>rfl)))
   (aB (bR (aW xK (pv 2) aQ (bD _)) (aG (aP (dX M.fZ.ma (lW M) (hr.mono (by walk_at "o")) rfl M.qU.m M.fZ.b .nil aC (aA (pv 2) (aA (pv 1) (aA (pv 3) (aA aQ (aA aQ aD)))))))) bC)
   (aG (aP (dX M.fZ.ma (lW M) (hr.mono (by walk_at "o")) rfl M.qU.m M.fZ.b .nil aC (aA (pv 2) (aA (pv 1) (aA (pv 3) (aA (aJ (YG M) (hr.mono (by walk_at "o")) rfl M.mZ.m M.mZ.k M.mZ.b .nil aC (aA (pv 1) (aA (pv 3) aD))) (aA aQ aD)))))))))))),?_⟩
  try dsimp only[aFc]
  walk_at "go"
  refine⟨a,stretchOf l,rfl,ha,fun H1 s1=>?_⟩
  have ha1:=s1 _ _ ha
  have k1: ∀v H',Same H1 H'->aAa M.qU.C H' v (setting l x) (fit l x)->Q v H':=fun v H' s2 h=>k v H' (s1.trans s2) h
  unfold setting fit at k1
  rw[if_pos x0,if_pos x0] at k1
  cases hh:highest (stretchOf l) with
  |none=>
   rw[hh] at k1
   rw[show oV none=V.non from rfl]
   walk_at "go"
   refine⟨rfl,?_⟩
   walk_at "go"
   exact QJ k1
  |some o=>
   rw[hh] at k1
   obtain⟨o3,op⟩:=aR4 hh
   rw[show oV (some o)=V.int (o:Int) from rfl]
   walk_at "go"
   refine⟨rfl,?_⟩
   walk_at "go"
   refine cI (SqL.of ha1) (bH (j:=o) (aJq l o3)) ?_
   walk_at "go"
   rw[aVe]
   have e:(((stretchOf l o).toNat:Nat):Int)=stretchOf l o:=by lia
   refine eN (fun c=>?_) (fun c=>?_)
   .have c:0<o:=of_decide_eq_true c
    walk_at "go"
    exact QJ (s:=⟨o,x,(stretchOf l o).toNat⟩) (f:= .fits (if o=0 then cubed x (stretchOf l 0) else 0)) k1 rfl rfl e (by show (if o=0 then _ else _)=_;rw[if_neg (by lia)]) rfl
   .have c:o=0:=by
     rcases Nat.eq_zero_or_pos o with z|z
     .exact z
     .exact absurd (decide_eq_true z) c
    subst c
    walk_at "go"
    refine⟨x,stretchOf l 0,rfl,x0,x1,op,(hB 0 (by lia)).2,?_⟩
    walk_at "go"
    exact QJ (s:=⟨0,x,(stretchOf l 0).toNat⟩) (f:= .fits (if 0=0 then cubed x (stretchOf l 0) else 0)) k1 rfl rfl e rfl rfl
noncomputable def aVf (C:Addr):Sp:=fun vs H Q _=>Ex3_ fun a l(x:Int)=>And6_ (vs=[.ref a,.int x]) (H a=some (.lst (shs l))) (0<x) (x<2^63) (Bnd (shrinkOf l)) (∀v H',Same H H'->aAa C H' v (setting l (-x)) (fit l (-x))->Q v H')
theorem aSw:bJ P w K mg base (CXE P w) 3 M.shrunk.f M.shrunk.fd WX (aVf M.qU.C):=by
 refine M.shrunk.F.okE ZK (fun vs H Q E h=>?_) (fun cdv A outer s H vs Q E hr h=>?_)
 .obtain⟨_,_,_,rfl,_⟩:=h
  rfl
 .obtain⟨a,l,x,rfl,ha,x0,x1,hB,k⟩:=h
  refine⟨_,(aB (bF (i:=2) ZK.nd rfl (Or.inl rfl) (aJ (QK M) (hr.mono (by walk_at "o")) rfl M.jC.m M.jC.k M.jC.b .nil aC (aA (pv 0) aD)))
   (aB (bR (aW U5 (pv 2) qW (bD _)) (aG (aP (dX M.fZ.ma (lW M) (hr.mono (by walk_at "o")) rfl M.qU.m M.fZ.b .nil aC (aA aQ (aA aQ (aA aQ (aA aQ (aA (pv 1) aD)))))))) bC)
   (aB (bF (i:=3) ZK.nd rfl (Or.inl rfl) (cJ bM (pv 0) (pv 2) (fun _ _=>rfl)))
   (aB (bR (aW xK (pv 2) aQ (bD _)) (aG (aP (dX M.fZ.ma (lW M) (hr.mono (by walk_at "o")) rfl M.qU.m M.fZ.b .nil aC (aA (pv 2) (aA (T3 zU (pv 1)) (aA (pv 3) (aA aQ (aA aQ aD)))))))) bC)
   (aB (bR (aW xK (pv 1) (pv 3) (bD _)) (aG (aP (dX M.fZ.ma (lW M) (hr.mono (by walk_at "o")) rfl M.qU.m M.fZ.b .nil aC (aA (pv 2) (aA (T3 zU (pv 3)) (aA (pv 3) (aA aQ (aA (cN sZ (pv 1) (pv 3)) aD)))))))) bC)
   (aG (aP (dX M.fZ.ma (lW M) (hr.mono (by walk_at "o")) rfl M.qU.m M.fZ.b .nil aC (aA (pv 2) (aA (T3 zU (pv 1)) (aA (pv 3) (aA (aJ (YG M) (hr.mono (by walk_at "o")) rfl M.mZ.m M.mZ.k M.mZ.b .nil aC (aA (pv 1) (aA (pv 3) aD))) (aA aQ aD))))))))))))),?_⟩
  try dsimp only[aFc]
  walk_at "go"
  refine⟨a,shrinkOf l,rfl,ha,fun H1 s1=>?_⟩
  have ha1:=s1 _ _ ha
  have k1: ∀v H',Same H1 H'->aAa M.qU.C H' v (setting l (-x)) (fit l (-x))->Q v H':=fun v H' s2 h=>k v H' (s1.trans s2) h
  unfold setting fit at k1
  have m1: ¬0 < -x:=by lia
  have m2: -x<0:=by lia
  simp only[if_neg m1,if_pos m2,show - -x=x by lia] at k1
  cases hh:highest (shrinkOf l) with
  |none=>
   rw[hh] at k1
   rw[show oV none=V.non from rfl]
   walk_at "go"
   refine⟨rfl,?_⟩
   walk_at "go"
   exact QJ k1
  |some o=>
   rw[hh] at k1
   obtain⟨o3,op⟩:=aR4 hh
   rw[show oV (some o)=V.int (o:Int) from rfl]
   walk_at "go"
   refine⟨rfl,?_⟩
   walk_at "go"
   refine cI (SqL.of ha1) (bH (j:=o) (aJr l o3)) ?_
   walk_at "go"
   rw[aVe]
   have e:(((shrinkOf l o).toNat:Nat):Int)=shrinkOf l o:=by lia
   refine eN (fun c=>?_) (fun c=>?_)
   .have c:0<o:=of_decide_eq_true c
    have e1: ¬(o=0/\shrinkOf l 0<x):=by lia
    have e2: ¬o=0:=by lia
    simp only[if_neg e1,if_neg e2] at k1
    walk_at "go"
    exact QJ (s:=⟨o,-x,(shrinkOf l o).toNat⟩) (f:= .fits 0) k1 rfl rfl e rfl rfl
   .have c:o=0:=by
     rcases Nat.eq_zero_or_pos o with z|z
     .exact z
     .exact absurd (decide_eq_true z) c
    subst c
    walk_at "go"
    refine eN (fun c=>?_) (fun c=>?_)
    .have c:shrinkOf l 0<x:=of_decide_eq_true c
     simp only[true_and,if_pos c,if_pos trivial] at k1
     walk_at "go"
     exact QJ (s:=⟨0,-(shrinkOf l 0),(shrinkOf l 0).toNat⟩) (f:= .full (x-shrinkOf l 0)) k1 rfl rfl e rfl rfl
    .have c: ¬shrinkOf l 0<x:=fun z=>c (decide_eq_true z)
     simp only[true_and,if_neg c,if_pos trivial] at k1
     walk_at "go"
     refine⟨x,shrinkOf l 0,rfl,x0,x1,op,(hB 0 (by lia)).2,?_⟩
     walk_at "go"
     exact QJ (s:=⟨0,-x,(shrinkOf l 0).toNat⟩) (f:= .fits (cubed x (shrinkOf l 0))) k1 rfl rfl e rfl rfl
structure bDv (l:List Thing):Prop where
 st:Bnd (stretchOf l)
 sh:Bnd (shrinkOf l)
noncomputable def aSx (C G:Addr):Sp:=fun vs H Q _=>Ex5_ fun p a b l(x:Int)=>And6_ (vs=[.ref p,.int x]) (VL G H p a b l) (-(2^63)<x) (x<2^63) (bDv l) (∀v H',Same H H'->aAa C H' v (setting l x) (fit l x)->Q v H')
theorem aB1:bJ P w K mg base (CXE P w) 4 M.pL.f M.pL.fd J1 (aSx M.qU.C M.fL.C):=by
 refine M.pL.F.okE aM3 (fun vs H Q E h=>?_) (fun cdv A outer s H vs Q E hr h=>?_)
 .obtain⟨_,_,_,_,_,rfl,_⟩:=h
  rfl
 .obtain⟨p,a,b,l,x,rfl,⟨⟨dx,hp⟩,hst,hsh,nab⟩,x0,x1,hB,k⟩:=h
  have c:=M.fL.c
  have n1:=M.lU
  have n2:=M.oA
  refine⟨_,(aB (bR (aW xK (pv 1) aQ (bD _)) (aG (aP (aJ (aJu M) (hr.mono (by walk_at "o")) rfl M.stretched.m M.stretched.k M.stretched.b .nil aC (aA (bG (pv 0) rfl) (aA (pv 1) aD))))) bC)
   (aB (bR (aW KQ (pv 1) aQ (bD _)) (aG (aP (aJ (aSw M) (hr.mono (by walk_at "o")) rfl M.shrunk.m M.shrunk.k M.shrunk.b .nil aC (aA (bG (pv 0) rfl) (aA (T3 zU (pv 1)) aD))))) bC)
   (aG (aP (dX M.fZ.ma (lW M) (hr.mono (by walk_at "o")) rfl M.qU.m M.fZ.b .nil aC (aA aQ (aA aQ (aA aQ (aA aQ (aA aQ aD)))))))))),?_⟩
  try dsimp only[aFc]
  walk_at "go"
  refine eN (fun c=>?_) (fun c=>?_)
  .have c:0<x:=of_decide_eq_true c
   walk_at "go"
   exact⟨a,l,x,rfl,hst,c,x1,hB.st,k⟩
  .have c0: ¬0<x:=fun z=>c (decide_eq_true z)
   walk_at "go"
   refine eN (fun c=>?_) (fun c=>?_)
   .have c:x<0:=of_decide_eq_true c
    walk_at "go"
    exact⟨b,l,-x,rfl,hsh,by lia,by lia,hB.sh,by rw[show - -x=x by lia];exact k⟩
   .have c: ¬x<0:=fun z=>c (decide_eq_true z)
    unfold setting fit at k
    rw[if_neg c0,if_neg c0,if_neg c,if_neg c] at k
    walk_at "go"
    exact QJ k
end
end Pr
end
section
namespace Pr
open SbThing SbPack
noncomputable def szT (t:Thing):Nat:=(M.tl (M.rawOf t)).length
noncomputable def szL (l:List Thing):Nat:=(M.tlR (M.bK l)).length
theorem wM:szL []=0:=by unfold szL;rw[M.bK,M.tlR];rfl
theorem fO (t:Thing)(l:List Thing):szL (t::l)=szT t+szL l:=by unfold szL szT;rw[M.bK,M.tlR,List.length_append]
theorem iC: ∀(l r:List Thing),szL (l++r)=szL l+szL r
 |[],r=>by rw[List.nil_append,wM,Nat.zero_add]
 |t::l,r=>by rw[List.cons_append,fO,fO,iC l r,Nat.add_assoc]
theorem wN (t:Thing):1<=szT t:=by
 unfold szT
 cases t <;>(rw[M.rawOf,M.tl];simp)
theorem aP7: ∀l:List Thing,l.length<=szL l
 |[]=>Nat.zero_le _
 |t::l=>by
  rw[fO,List.length_cons]
  have:=wN t
  have:=aP7 l
  lia
theorem d9 {x:Int}(h:isLen x=true): -1073741823<=x/\x<=1073741823:=by
 unfold isLen FAR at h
 simp only[Bool.and_eq_true,decide_eq_true_eq] at h
 exact h
theorem xJ {o:Option Int}(h:optOk o=true): -1073741823<=o.getD 0/\o.getD 0<=1073741823:=by
 cases o with
 |none=>exact⟨by decide,by decide⟩
 |some x=>exact d9 h
theorem qL {g:Glue}(h:glueOk g=true):(-1073741823<=g.size/\g.size<=1073741823)/\(-1073741823<=g.stretch/\g.stretch<=1073741823)/\(-1073741823<=g.shrink/\g.shrink<=1073741823):=by
 unfold glueOk at h
 simp only[Bool.and_eq_true] at h
 exact⟨d9 h.1,d9 h.2.1,d9 h.2.2.2.1⟩
theorem snoc_ind {α:Type}{p:List α->Prop}(h0:p [])(h1: ∀l x,p l->p (l++[x])): ∀l,p l:=by
 intro l
 have: ∀r:List α,p r.reverse:=by
  intro r
  induction r with
  |nil=>exact h0
  |cons x r ih=>rw[List.reverse_cons];exact h1 _ _ ih
 have h:=this l.reverse
 rw[List.reverse_reverse] at h
 exact h
theorem aVg (o:Nat)(l:List Thing):(∀t∈l,Rt t)-> -1073741823*(l.length:Int)<=stretchOf l o/\stretchOf l o<=1073741823*(l.length:Int):=by
 refine snoc_ind (p:=fun l=>(∀t∈l,Rt t)-> -1073741823*(l.length:Int)<=stretchOf l o/\stretchOf l o<=1073741823*(l.length:Int)) (fun _=>by show -1073741823*(0:Int)<=0/\(0:Int)<=1073741823*0;decide) (fun l t ih h=>?_) l
 have ih:=ih fun u hu=>h u (by simp[hu])
 have ht:=h t (by simp)
 rw[aJo,List.length_append]
 simp only[List.length_cons,List.length_nil]
 cases e:glueOf t with
 |none=>simp only;lia
 |some g=>
  have hg:=(qL (aC8 ht e)).2.1
  simp only
  split <;>lia
theorem aVh (o:Nat)(l:List Thing):(∀t∈l,Rt t)-> -1073741823*(l.length:Int)<=shrinkOf l o/\shrinkOf l o<=1073741823*(l.length:Int):=by
 refine snoc_ind (p:=fun l=>(∀t∈l,Rt t)-> -1073741823*(l.length:Int)<=shrinkOf l o/\shrinkOf l o<=1073741823*(l.length:Int)) (fun _=>by show -1073741823*(0:Int)<=0/\(0:Int)<=1073741823*0;decide) (fun l t ih h=>?_) l
 have ih:=ih fun u hu=>h u (by simp[hu])
 have ht:=h t (by simp)
 rw[aJp,List.length_append]
 simp only[List.length_cons,List.length_nil]
 cases e:glueOf t with
 |none=>simp only;lia
 |some g=>
  have hg:=(qL (aC8 ht e)).2.2
  simp only
  split <;>lia
theorem aMu {t:Thing}(h:Rt t): -2147483646<=inColumn t/\inColumn t<=2147483646:=by
 obtain⟨n,h⟩:=h
 cases t with
 |kern k=>rw[right] at h;have:=d9 h;show _<=k/\k<=_;lia
 |glue g=>rw[right] at h;have:=(qL h).1;show _<=g.size/\g.size<=_;lia
 |leaders g how u=>
  cases n with
  |zero=>cases h
  |succ m=>
   rw[right,Bool.and_eq_true] at h
   have:=(qL h.1).1
   show _<=g.size/\g.size<=_
   lia
 |rule w hh d=>
  rw[right,Bool.and_eq_true,Bool.and_eq_true] at h
  have:=xJ h.2.1
  have:=xJ h.2.2
  show _<=hh.getD 0+d.getD 0/\hh.getD 0+d.getD 0<=_
  lia
 |box c w hh d s sh l=>
  cases n with
  |zero=>cases h
  |succ m=>
   simp only[right,Bool.and_eq_true] at h
   have:=d9 h.2.1
   have:=d9 h.2.2.1
   show _<=hh+d/\hh+d<=_
   lia
 |_=>show _<=(0:Int)/\(0:Int)<=_;decide
theorem aMv {t:Thing}{x:Int×Int}(h:Rt t)(e:solid t=some x):(-1073741823<=x.1/\x.1<=1073741823)/\(-1073741823<=x.2/\x.2<=1073741823):=by
 obtain⟨n,h⟩:=h
 cases t with
 |rule w hh d=>
  cases e
  rw[right,Bool.and_eq_true,Bool.and_eq_true] at h
  exact⟨xJ h.2.1,xJ h.2.2⟩
 |box c w hh d s sh l=>
  cases e
  cases n with
  |zero=>cases h
  |succ m=>
   simp only[right,Bool.and_eq_true] at h
   exact⟨d9 h.2.1,d9 h.2.2.1⟩
 |_=>cases e
theorem aDu (l:List Thing):(∀t∈l,Rt t)-> -2147483646*(l.length:Int)<=columnSum l/\columnSum l<=2147483646*(l.length:Int):=by
 refine snoc_ind (p:=fun l=>(∀t∈l,Rt t)-> -2147483646*(l.length:Int)<=columnSum l/\columnSum l<=2147483646*(l.length:Int)) (fun _=>⟨by decide,by decide⟩) (fun l t ih h=>?_) l
 have ih:=ih fun u hu=>h u (by simp[hu])
 have ht:=aMu (h t (by simp))
 rw[aJn,List.length_append]
 simp only[List.length_cons,List.length_nil]
 lia
theorem aVi (l:List Thing):(∀t∈l,Rt t)-> -1073741823<=lastDepth l/\lastDepth l<=1073741823:=by
 refine snoc_ind (p:=fun l=>(∀t∈l,Rt t)-> -1073741823<=lastDepth l/\lastDepth l<=1073741823) (fun _=>⟨by decide,by decide⟩) (fun l t ih h=>?_) l
 have ih:=ih fun u hu=>h u (by simp[hu])
 rw[aR3]
 cases e:solid t with
 |none=>
  simp only[Option.isSome_none,Bool.false_eq_true,if_false]
  split
  .decide
  .exact ih
 |some x=>
  have:=(aMv (h t (by simp)) e).2
  simpa using this
theorem aVj: ∀(l:List Size)(s:Size),(l.foldl beside s).w=s.w+(l.map Size.w).sum
 |[],s=>by simp
 |a::l,s=>by
  rw[List.foldl_cons,aVj l,List.map_cons,List.sum_cons]
  show s.w+a.w+_=_
  lia
theorem aZo (n:Nat)(l:List Thing):(rowOf n l).w=(l.map fun t=>(inRow (n+1) t).w).sum:=by
 unfold rowOf
 rw[aVj,List.map_map]
 show (0:Int)+_=_
 rw[Int.zero_add]
 rfl
theorem aVk (f:Thing->Int)(g:Thing->Nat): ∀l:List Thing,(∀t∈l,-1073741823*(g t:Int)<=f t/\f t<=1073741823*(g t:Int))-> -1073741823*((l.map g).sum:Int)<=(l.map f).sum/\(l.map f).sum<=1073741823*((l.map g).sum:Int)
 |[],_=>by show -1073741823*(0:Int)<=0/\(0:Int)<=1073741823*0;decide
 |t::l,h=>by
  have h1:=h t (by simp)
  have h2:=aVk f g l fun u hu=>h u (by simp[hu])
  simp only[List.map_cons,List.sum_cons] at h2 ⊢
  lia
theorem aJv: ∀l:List Thing,szL l=(l.map szT).sum
 |[]=>wM
 |t::l=>by rw[fO,aJv l,List.map_cons,List.sum_cons]
theorem aXw (a b c:List Thing):szL c<=szT (.disc a b c):=by
 unfold szT szL
 rw[M.rawOf,M.tl]
 simp only[M.jP,M.tlF,M.tlV,List.length_append,List.length_cons]
 lia
theorem aMw: ∀(n:Nat)(t:Thing),right n t=true-> -1073741823*(szT t:Int)<=(inRow (n+1) t).w/\(inRow (n+1) t).w<=1073741823*(szT t:Int):=by
 intro n
 induction n with
 |zero=>
  intro t h
  have hp:=wN t
  cases t with
  |glyph nm w hh d=>
   simp only[right,Bool.and_eq_true] at h
   have:=d9 h.2.1
   show _<=w/\w<=_
   lia
  |kern k=>simp only[right] at h;have:=d9 h;show _<=k/\k<=_;lia
  |glue g=>simp only[right] at h;have:=(qL h).1;show _<=g.size/\g.size<=_;lia
  |rule w hh d=>
   simp only[right,Bool.and_eq_true] at h
   have:=xJ h.1
   show _<=w.getD 0/\w.getD 0<=_
   lia
  |leaders g how u=>cases h
  |box c w hh d s sh l=>cases h
  |disc a b c=>cases h
  |adjust l=>cases h
  |insert c g d cost l=>cases h
  |_=>show _<=(0:Int)/\(0:Int)<=_;lia
 |succ n ih=>
  intro t h
  have hp:=wN t
  cases t with
  |glyph nm w hh d=>
   simp only[right,Bool.and_eq_true] at h
   have:=d9 h.2.1
   show _<=w/\w<=_
   lia
  |kern k=>simp only[right] at h;have:=d9 h;show _<=k/\k<=_;lia
  |glue g=>simp only[right] at h;have:=(qL h).1;show _<=g.size/\g.size<=_;lia
  |rule w hh d=>
   simp only[right,Bool.and_eq_true] at h
   have:=xJ h.1
   show _<=w.getD 0/\w.getD 0<=_
   lia
  |leaders g how u=>
   simp only[right,Bool.and_eq_true] at h
   have:=(qL h.1).1
   show _<=g.size/\g.size<=_
   lia
  |box c w hh d s sh l=>
   simp only[right,Bool.and_eq_true] at h
   have:=d9 h.1
   show _<=w/\w<=_
   lia
  |disc a b c=>
   simp only[right,Bool.and_eq_true] at h
   have hc: ∀t∈c,right n t=true:=List.all_eq_true.mp h.2.2
   have:=aVk (fun t=>(inRow (n+1) t).w) szT c fun t ht=>ih t (hc t ht)
   rw[<- aJv] at this
   have hs:=aXw a b c
   have e:(inRow (n+1+1) (.disc a b c)).w=(c.map fun t=>(inRow (n+1) t).w).sum:=aZo n c
   rw[e]
   lia
  |_=>show _<=(0:Int)/\(0:Int)<=_;lia
theorem aB2 {n:Nat}{l:List Thing}(h:l.all (right n)=true): -1073741823*(szL l:Int)<=(rowOf n l).w/\(rowOf n l).w<=1073741823*(szL l:Int):=by
 rw[aZo,aJv]
 exact aVk _ szT l fun t ht=>aMw n t (List.all_eq_true.mp h t ht)
structure Bd (l:List Thing):Prop where
 rt: ∀t∈l,Rt t
 sz:szL l<=2000
theorem Bd.len {l:List Thing}(h:Bd l):l.length<=2000:=Nat.le_trans (aP7 l) h.sz
theorem Bd.bnd {l:List Thing}(h:Bd l):bDv l:=by
 have hl:=h.len
 refine⟨fun o _=>?_,fun o _=>?_⟩
 .have:=aVg o l h.rt
  lia
 .have:=aVh o l h.rt
  lia
theorem Bd.pre {l pre rest:List Thing}(h:Bd l)(e:l=pre++rest):Bd pre:=by
 subst e
 refine⟨fun t ht=>h.rt t (by simp[ht]),?_⟩
 have:=h.sz
 rw[iC] at this
 lia
theorem Bd.take {l:List Thing}(h:Bd l)(i:Nat):Bd (l.take i):=h.pre (List.take_append_drop i l).symm
theorem aMx {l:List Thing}(h: ∀t∈l,Rt t)(g:Int)(hg: -1073741823<=g/\g<=1073741823): -1073741823<=columnDepth l g/\columnDepth l g<=1073741823:=by
 have:=aVi l h
 unfold columnDepth
 split
 .exact this
 .rw[Int.min_def]
  split <;>lia
end Pr
end
section
namespace Pr
open PySem PySem.Spec PyProof.Rows L2 SbThing SbPack
section
variable{P:Program}{w:World}{K:PySem.W.Frag}{mg:Str->Option Value}{base:Heap}(M:Md w K mg)
theorem bBj.same {a b:Addr}{H0 H H':Hp}(s:Same H0 H)(o:bBj a b H H')(na:H0 a=none)(nb:H0 b=none):Same H0 H':=fun c u e=>o c u (s c u e) (aX e na) (aX e nb)
noncomputable def aP8 (C:Addr):Sp:=fun vs H Q _=>Ex2_ fun v l=>And4_ (vs=[v]) (LAt H v l) ((∀t∈l,Rt t)) (∀p a b H',Same H H'->VL C H' p a b l->Q (.ref p) H')
theorem aJw:bJ P w K mg base (CXE P w) 3 M.tV.f M.tV.fd yR (aP8 M.fL.C):=by
 refine M.tV.F.okE IW (fun vs H Q E h=>?_) (fun cdv A outer s H vs Q E hr h=>?_)
 .obtain⟨_,_,rfl,_⟩:=h
  rfl
 .obtain⟨v,l,rfl,⟨a0,vs,rfl,ha,hv⟩,hR,k⟩:=h
  refine⟨_,(aB (bF (i:=1) IW.nd rfl (Or.inl rfl) (uX M.kY.ma (CV M) (hr.mono (by walk_at "o")) rfl M.fL.m M.kY.b .nil aC))
   (aB (lM PassesOwn.«leaving» rfl (nM (pv 0)) (cV (i:=2) IW.nd rfl (Or.inl rfl)) (aG (bQ (dN (pv 1) M.fL.c M.gC.m (u5 M) (hr.mono (by walk_at "o")) M.gC.b .nil aC (aA (pv 2) aD)))))
   (aG (aP (pv 1))))),?_⟩
  try dsimp only[aFc]
  walk_at "go"
  refine aVc fun p a b H1 np na nb s1 G1=>?_
  walk_at "go"
  refine vR ?_
  walk_at "go"
  refine⟨a0,rfl,⟨_,SqL.of (s1 _ _ ha)⟩,aSq ha hv (fun pre σ H'=>Same H H'/\VL M.fL.C H' p a b pre/\ ∃x,σ=[some (.ref a0),some (.ref p),x]) ⟨s1,G1,none,rfl⟩ (fun _ _ _ p=>p.1) ?_ ?_⟩
  .rintro pre t rest v σ H2 el hT s2 ⟨_,G2,x,rfl⟩
   obtain⟨dx,hp⟩:=G2.ob
   walk_at "go"
   refine⟨p,a,b,v,t,pre,rfl,G2,hT.mono s2,hR t (by rw[el];simp),fun H3 G3 o3=>?_⟩
   walk_at "go"
   exact⟨o3.same s2 na nb,G3,some v,rfl⟩
  .rintro σ H2 ⟨s2,G2,x,rfl⟩
   walk_at "go"
   exact k p a b H2 s2 G2
theorem aP9 {c:Bool}{w' h d:Int}{s:SbThing.Setting}{sh:Int}{l:List Thing}(h:Rt (.box c w' h d s sh l)):s.order<=3/\ -1152921504606846976<s.num/\s.num<1152921504606846976/\1<=s.den/\(s.den:Int)<1152921504606846976:=by
 obtain⟨n,h⟩:=h
 cases n with
 |zero=>cases h
 |succ m=>
  simp only[right,settingOk,WIDE,Bool.and_eq_true,decide_eq_true_eq] at h
  exact⟨h.2.2.2.1.1,of_decide_eq_true h.2.2.2.1.2.1,of_decide_eq_true h.2.2.2.1.2.2.1,h.2.2.2.1.2.2.2.1,of_decide_eq_true h.2.2.2.1.2.2.2.2⟩
noncomputable def bBk (C:Addr):Sp:=fun vs H Q _=>Ex12_ fun v p a b c w' h d s sh l0 l=>And5_ (vs=[v,.ref p]) (Th H v (.box c w' h d s sh l0)) (Rt (.box c w' h d s sh l0)) (VL C H p a b l) (Q (.int (added s l)) H)
theorem VN:bJ P w K mg base (CXE P w) 1 M.iY.f M.iY.fd nR (bBk M.fL.C):=by
 refine M.iY.F.okE xM (fun vs H Q E h=>?_) (fun cdv A outer s H vs Q E hr h=>?_)
 .obtain⟨_,_,_,_,_,_,_,_,_,_,_,_,rfl,_⟩:=h
  rfl
 .obtain⟨v,p,a,b,c,w',h,d,s',sh,l0,l,rfl,hT,hR,⟨⟨dx,hp⟩,hst,hsh,nab⟩,k⟩:=h
  have c:=M.fL.c
  have n1:=M.lU
  have n2:=M.oA
  refine⟨_,(aB (bF (i:=2) xM.nd rfl (Or.inl rfl) (lK (aW xK (aZ (bO hr) (pv 0) aN (fun _ _=>rfl)) aQ (bD _)) (bG (pv 1) rfl) (bG (pv 1) rfl)))
   (aG (aP (cN vG (cN aI9 (aZ (bO hr) (pv 0) aN (fun _ _=>rfl)) (cJ bM (pv 2) (aZ (bO hr) (pv 0) aN (fun _ _=>rfl)) (fun _ _=>rfl))) (aZ (bO hr) (pv 0) aN (fun _ _=>rfl)))))),?_⟩
  try dsimp only[aFc]
  obtain⟨b0,kvs,rfl,hb,u,hu,rfl⟩:=hT.kv
  obtain⟨z1,z2,z3,z4,z5⟩:=aP9 hR
  unfold added at k
  have m1:aU0 s'.num (stretchOf l s'.order):= .inl ⟨by lia,by lia⟩
  have m2:aU0 s'.num (shrinkOf l s'.order):= .inl ⟨by lia,by lia⟩
  have d1: ∀i:Int,aZl i (s'.den:Int):=fun i=>⟨by lia,by lia⟩
  walk_at "go"
  refine eN (fun c=>?_) (fun c=>?_)
  .have c:0<s'.num:=of_decide_eq_true c
   rw[if_pos c] at k
   walk_at "go"
   refine cI (SqL.of hst) (bH (j:=s'.order) (aJq l z1)) ?_
   refine LR m1 ?_
   walk_at "go"
   exact LR (d1 _) k
  .have c: ¬0<s'.num:=fun z=>c (decide_eq_true z)
   rw[if_neg c] at k
   walk_at "go"
   refine cI (SqL.of hsh) (bH (j:=s'.order) (aJr l z1)) ?_
   refine LR m2 ?_
   walk_at "go"
   refine LR (d1 _) ?_
   by_cases c2:s'.num<0
   .rw[if_pos c2] at k
    exact k
   .have e:s'.num=0:=by lia
    rw[if_neg c2] at k
    rw[e,Int.zero_mul,Int.zero_ediv]
    exact k
structure aG2 (C G F:Addr)(H:Hp)(p pc pg a b:Addr)(l:List Thing):Prop where
 ob: ∃dx,H p=some (.ins F dx [("column",.ref pc),("gives",.ref pg)])
 cl:aSu C H pc l
 gv:VL G H pg a b l
theorem aG2.mono {C G F:Addr}{H H':Hp}{p pc pg a b:Addr}{l:List Thing}(h:aG2 C G F H p pc pg a b l)(k:Same H H'):aG2 C G F H' p pc pg a b l:=⟨let ⟨dx,e⟩:=h.ob;⟨dx,k _ _ e⟩,let ⟨dx,e⟩:=h.cl;⟨dx,k _ _ e⟩,h.gv.mono k⟩
noncomputable def aMy (C G F:Addr):Sp:=fun vs H Q _=>Ex2_ fun p dx=>And3_ (vs=[.ref p]) (H p=some (.ins F dx [])) (∀H' pc pg a b,H pc=none->H pg=none->H a=none->H b=none->aG2 C G F H' p pc pg a b []->Sb p H H'->Q .non H')
theorem vH:bJ P w K mg base (CXE P w) 3 M.fC.f M.fC.fd lF (aMy M.bI.C M.fL.C M.cD.C):=by
 refine M.fC.F.okE O3 (fun vs H Q E h=>?_) (fun cdv A outer s H vs Q E hr h=>?_)
 .obtain⟨_,_,rfl,_⟩:=h
  rfl
 .obtain⟨p,dx,rfl,hp,k⟩:=h
  have c:=M.cD.c
  have n1:=M.kJ
  have n2:=M.lG
  refine⟨_,(aB (fW (pv 0) (uX M.eF.ma (sY M) (hr.mono (by walk_at "o")) rfl M.bI.m M.eF.b .nil aC) rfl)
   (aG (fW (pv 0) (uX M.kY.ma (CV M) (hr.mono (by walk_at "o")) rfl M.fL.m M.kY.b .nil aC) rfl))),?_⟩
  try dsimp only[aFc]
  walk_at "go"
  refine aZk fun pc H1 npc s1 c1=>?_
  have hp1:=s1 _ _ hp
  walk_at "go"
  refine aVc fun pg a b H3 npg na nb s3 G3=>?_
  have hp3:=s3 p _ aH
  walk_at "go"
  have nppc:p≠pc:=aX hp npc
  have nt: ∀q,upd H1 p (.ins M.cD.C dx (lX "column" (.ref pc) [])) q=none->H q=none/\q≠p:=fun q hq=>by
   have e:q≠p:=fun z=>by subst z;rw[aH] at hq;cases hq
   rw[aM e] at hq
   exact⟨aHa s1 hq,e⟩
  obtain⟨dxc,hc1⟩:=c1
  have hc3:=s3 pc _ ((aM (Ne.symm nppc)).trans hc1)
  obtain⟨dxg,hg3⟩:=G3.ob
  have e1:pg≠p:=(nt pg npg).2
  have e2:a≠p:=(nt a na).2
  have e3:b≠p:=(nt b nb).2
  refine k _ pc pg a b npc (nt pg npg).1 (nt a na).1 (nt b nb).1 ⟨⟨dx,by rw[aH];rfl⟩,⟨dxc,by rw[aM (Ne.symm nppc)];exact hc3⟩,⟨dxg,by rw[aM e1];exact hg3⟩,by rw[aM e2];exact G3.st,by rw[aM e3];exact G3.sh,G3.ne⟩ (fun d o hd hne=>?_)
  rw[aM hne]
  exact s3 d o ((aM hne).trans (s1 d o hd))
noncomputable def Off3 (c a b:Addr)(H H':Hp):Prop:= ∀d o,H d=some o->d≠c->d≠a->d≠b->H' d=some o
theorem Off3.same {c a b:Addr}{H0 H H':Hp}(s:Same H0 H)(o:Off3 c a b H H')(nc:H0 c=none)(na:H0 a=none)(nb:H0 b=none):Same H0 H':=fun d u e=>o d u (s d u e) (aX e nc) (aX e na) (aX e nb)
noncomputable def aXx (C G F:Addr):Sp:=fun vs H Q _=>Ex8_ fun p pc pg a b v t l=>And5_ (vs=[.ref p,v]) (aG2 C G F H p pc pg a b l) (Th H v t) (Rt t) (∀H',aG2 C G F H' p pc pg a b (l++[t])->Off3 pc a b H H'->Q .non H')
theorem qR:bJ P w K mg base (CXE P w) 5 M.dH.f M.dH.fd j5 (aXx M.bI.C M.fL.C M.cD.C):=by
 refine M.dH.F.okE FQ (fun vs H Q E h=>?_) (fun cdv A outer s H vs Q E hr h=>?_)
 .obtain⟨_,_,_,_,_,_,_,_,rfl,_⟩:=h
  rfl
 .obtain⟨p,pc,pg,a,b,v,t,l,rfl,F,hT,hR,k⟩:=h
  have c:=M.cD.c
  have n1:=M.kJ
  have n2:=M.lG
  refine⟨_,(aB (bQ (dN (bG (pv 0) rfl) M.bI.c M.d8.m (pQ M) (hr.mono (by walk_at "o")) M.d8.b .nil aC (aA (pv 1) aD)))
   (aG (bQ (dN (bG (pv 0) rfl) M.fL.c M.gC.m (u5 M) (hr.mono (by walk_at "o")) M.gC.b .nil aC (aA (pv 1) aD))))),?_⟩
  try dsimp only[aFc]
  obtain⟨⟨dx,hp⟩,hc,G⟩:=F
  obtain⟨dxc,hc1⟩:=id hc
  obtain⟨dxg,hg1⟩:=G.ob
  walk_at "go"
  refine⟨pc,v,t,l,rfl,hc,hT,hR,fun o c2=>?_⟩
  have ne1:p≠pc:=jO hp hc1 (by intro z;injection z with _ _ z;exact absurd (congrArg List.length z) (by show ¬2=3;decide))
  have ne2:pg≠pc:=jO hg1 hc1 (by intro z;injection z with _ _ z;exact absurd (congrArg List.length z) (by show ¬2=3;decide))
  have ne3:a≠pc:=jO G.st hc1 (by intro z;cases z)
  have ne4:b≠pc:=jO G.sh hc1 (by intro z;cases z)
  have hp2:upd H pc o p=some _:=(aM ne1).trans hp
  have hg2:upd H pc o pg=some _:=(aM ne2).trans hg1
  have G2:VL M.fL.C (upd H pc o) pg a b l:=⟨⟨dxg,hg2⟩,(aM ne3).trans G.st,(aM ne4).trans G.sh,G.ne⟩
  walk_at "go"
  refine⟨pg,a,b,v,t,l,rfl,G2,hT.kp (Kp.ins hc1),hR,fun H3 G3 o3=>?_⟩
  walk_at "go"
  have ne5:p≠a:=jO hp G.st (by intro z;cases z)
  have ne6:p≠b:=jO hp G.sh (by intro z;cases z)
  obtain⟨dxc2,hc2⟩:=c2
  refine k H3 ⟨⟨dx,o3 _ _ hp2 ne5 ne6⟩,⟨dxc2,o3 _ _ hc2 (Ne.symm ne3) (Ne.symm ne4)⟩,G3⟩ (fun d u hd q1 q2 q3=>?_)
  exact o3 d u ((aM q1).trans hd) q2 q3
theorem aZp {C G F:Addr}{H:Hp}{Q:Addr->Hp->Prop}{E:XK}(k: ∀p pc pg a b H',H p=none->H pc=none->H pg=none->H a=none->H b=none->Same H H'->aG2 C G F H' p pc pg a b []->Q p H'): ∀x dx,H x=none->H dx=none->dx≠x->aMy C G F (.ref x::([]++[])) (upd (upd H dx (.own x)) x (.ins F dx [])) (fun v H2=>v= .non/\Q x H2) E:=by
 intro x dx nx nd ne
 have nt: ∀q,upd (upd H dx (.own x)) x (.ins F dx []) q=none->H q=none:=fun q hq=>by
  have e1:q≠x:=fun z=>by subst z;rw[aH] at hq;cases hq
  have e2:q≠dx:=fun z=>by subst z;rw[aM e1,aH] at hq;cases hq
  rw[aM e1,aM e2] at hq
  exact hq
 refine⟨x,dx,rfl,aH,fun H' pc pg a b h1 h2 h3 h4 f sb=>⟨rfl,k x pc pg a b H' nx (nt _ h1) (nt _ h2) (nt _ h3) (nt _ h4) (fun d o e=>?_) f⟩⟩
 refine sb d o ?_ (aX e nx)
 rw[aM (aX e nx),aM (aX e nd)]
 exact e
noncomputable def overOf (l:List Thing)(v g:Int):Int:=v-(columnSum l-columnDepth l g)
theorem aPa {l:List Thing}(h:Bd l){v g:Int}(hv: -1073741823<=v/\v<=1073741823)(hg: -1073741823<=g/\g<=1073741823): -(2^63)<overOf l v g/\overOf l v g<2^63:=by
 have h1:=aDu l h.rt
 have h2:=aMx h.rt g hg
 have h3:=h.len
 unfold overOf
 lia
noncomputable def aXy (C G F T:Addr):Sp:=fun vs H Q _=>Ex8_ fun p pc pg a b l v g=>And6_ (vs=[.ref p,.int v,.int g]) (aG2 C G F H p pc pg a b l) (Bd l) ((-1073741823<=v/\v<=1073741823)) ((-1073741823<=g/\g<=1073741823)) (∀v' H',Same H H'->aAa T H' v' (setting l (overOf l v g)) (fit l (overOf l v g))->Q v' H')
theorem sS:bJ P w K mg base (CXE P w) 5 M.dU.f M.dU.fd jL (aXy M.bI.C M.fL.C M.cD.C M.qU.C):=by
 refine M.dU.F.okE rE (fun vs H Q E h=>?_) (fun cdv A outer s H vs Q E hr h=>?_)
 .obtain⟨_,_,_,_,_,_,_,_,rfl,_⟩:=h
  rfl
 .obtain⟨p,pc,pg,a,b,l,v,g,rfl,F,hB,hv,hg,k⟩:=h
  have c:=M.cD.c
  have n1:=M.kJ
  have n2:=M.lG
  have c2:=M.dM.c
  have n3:=M.fU
  refine⟨_,(aB (bF (i:=3) rE.nd rfl (Or.inl rfl) (dN (bG (pv 0) rfl) M.bI.c M.cA.m (jK M) (hr.mono (by walk_at "o")) M.cA.b .nil aC (aA (pv 2) aD)))
   (aG (aP (aJ (aB1 M) (hr.mono (by walk_at "o")) rfl M.pL.m M.pL.k M.pL.b .nil aC (aA (bG (pv 0) rfl) (aA (cN sZ (pv 1) (bG (pv 3) rfl)) aD)))))),?_⟩
  try dsimp only[aFc]
  obtain⟨⟨dx,hp⟩,hc,G⟩:=F
  obtain⟨dxc,hc1⟩:=id hc
  walk_at "go"
  refine⟨pc,l,g,rfl,hc,fun v' H1 s1 hs=>?_⟩
  obtain⟨q,dq,rfl,hq⟩:=hs
  have hp1:=s1 _ _ hp
  walk_at "go"
  have:=aPa hB hv hg
  exact⟨pg,a,b,l,_,rfl,G.mono s1,this.1,this.2,hB.bnd,fun v' H2 s2 h2=>k v' H2 (s1.trans s2) h2⟩
noncomputable def aVl (T:Addr):Sp:=fun vs H Q _=>Ex4_ fun x l v g=>And6_ (vs=[x,.int v,.int g]) (LAt H x l) (Bd l) ((-1073741823<=v/\v<=1073741823)) ((-1073741823<=g/\g<=1073741823)) (∀v' H',Same H H'->aAa T H' v' (setting l (overOf l v g)) (fit l (overOf l v g))->Q v' H')
theorem aG3:bJ P w K mg base (CXE P w) 6 M.qI.f M.qI.fd wD (aVl M.qU.C):=by
 refine M.qI.F.okE BL (fun vs H Q E h=>?_) (fun cdv A outer s H vs Q E hr h=>?_)
 .obtain⟨_,_,_,_,rfl,_⟩:=h
  rfl
 .obtain⟨x,l,v,g,rfl,⟨a0,vs,rfl,ha,hv⟩,hB,hvv,hg,k⟩:=h
  refine⟨_,(aB (bF (i:=3) BL.nd rfl (Or.inl rfl) (uX M.fC.ma (vH M) (hr.mono (by walk_at "o")) rfl M.cD.m M.fC.b .nil aC))
   (aB (lM PassesOwn.«leaving» rfl (nM (pv 0)) (cV (i:=4) BL.nd rfl (Or.inl rfl)) (aG (bQ (dN (pv 3) M.cD.c M.dH.m (qR M) (hr.mono (by walk_at "o")) M.dH.b .nil aC (aA (pv 4) aD)))))
   (aG (aP (dN (pv 3) M.cD.c M.dU.m (sS M) (hr.mono (by walk_at "o")) M.dU.b .nil aC (aA (pv 1) (aA (pv 2) aD))))))),?_⟩
  try dsimp only[aFc]
  walk_at "go"
  refine aZp fun p pc pg a b H1 np npc npg na nb s1 F1=>?_
  walk_at "go"
  refine vR ?_
  walk_at "go"
  refine⟨a0,rfl,⟨_,SqL.of (s1 _ _ ha)⟩,aSq ha hv (fun pre σ H'=>Same H H'/\aG2 M.bI.C M.fL.C M.cD.C H' p pc pg a b pre/\ ∃x,σ=[some (.ref a0),some (.int v),some (.int g),some (.ref p),x]) ⟨s1,F1,none,rfl⟩ (fun _ _ _ p=>p.1) ?_ ?_⟩
  .rintro pre t rest v σ H2 el hT s2 ⟨_,F2,x,rfl⟩
   obtain⟨dx,hp⟩:=F2.ob
   walk_at "go"
   refine⟨p,pc,pg,a,b,v,t,pre,rfl,F2,hT.mono s2,hB.rt t (by rw[el];simp),fun H3 F3 o3=>?_⟩
   walk_at "go"
   exact⟨o3.same s2 npc na nb,F3,some v,rfl⟩
  .rintro σ H2 ⟨s2,F2,x,rfl⟩
   obtain⟨dx,hp⟩:=F2.ob
   walk_at "go"
   exact⟨p,pc,pg,a,b,l,v,g,rfl,F2,hB,hvv,hg,fun v' H3 s3 h3=>k v' H3 (s2.trans s3) h3⟩
end
end Pr
end
section
namespace Pr
open PySem PySem.Spec PyProof.Rows L2 SbThing SbPack
theorem aVm {kvs:List (Key×V)}{k:Key}{v:V}(h:k∉kvs.map (·.1)):putK kvs k v=kvs++[(k,v)]:=by
 unfold putK
 rw[if_neg]
 intro z
 rw[List.any_eq_true] at z
 obtain⟨kv,h1,h2⟩:=z
 exact h (List.mem_map.mpr ⟨kv,h1,of_decide_eq_true h2⟩)
theorem aDv: ∀(kvs acc:List (Key×V)),((acc++kvs).map (·.1)).Nodup->zV acc kvs=acc++kvs
 |[],acc,_=>by rw[List.append_nil];rfl
 |(k,v)::r,acc,h=>by
  have e:k∉acc.map (·.1):=fun z=>by
   rw[List.map_append,List.nodup_append] at h
   exact h.2.2 k z k (by simp) rfl
  show zV (putK acc k v) r=_
  rw[aVm e,aDv r _ (by rw[List.append_assoc];exact h),List.append_assoc]
  rfl
theorem aDw {H2:Hp}{p:Addr}{Q:VK}{ps:List (V×V)}(kvs:List (Key×V))(h1:H2 p=some (.dK []))(h2:ps=kvs.map (fun kv=>(kV kv.1,kv.2)))(h3:kvs.length<=15)(h4:(kvs.map (·.1)).Nodup)(q:Q (.ref p) (upd H2 p (.dK kvs))):
  H2 p=some (.dK [])/\ ∃kvs:List (Key×V),ps=kvs.map (fun kv=>(kV kv.1,kv.2))/\kvs.length<=15/\Q (.ref p) (upd H2 p (.dK (zV [] kvs))):=
 ⟨h1,kvs,h2,h3,by rw[aDv kvs [] h4];exact q⟩
theorem big:(10000000:Nat)<=sizeLine:=by decide
end Pr
end
section
namespace Pr
open PySem PySem.Spec PyProof.Rows L2 SbThing SbPack
section
variable{P:Program}{w:World}{K:PySem.W.Frag}{mg:Str->Option Value}{base:Heap}(M:Md w K mg)
theorem aB3:bJ P w K mg base (CXE P w) 20 M.gJ.f M.gJ.fd qC (aXn M.dM.C 8):=(YF M 8).2
noncomputable def bDw (S:Addr):Sp:=fun vs H Q _=>Ex4_ fun x y s l=>And4_ (vs=[x,y]) (M4 S H x s) (LAt H y l) (∀v' H',Same H H'->M4 S H' v' ⟨s.w,firstHeight l,s.h+s.d-firstHeight l⟩->Q v' H')
theorem aDx:bJ P w K mg base (CXE P w) 3 M.oE.f M.oE.fd uI (bDw M.dM.C):=by
 refine M.oE.F.okE xP (fun vs H Q E h=>?_) (fun cdv A outer s H vs Q E hr h=>?_)
 .obtain⟨_,_,_,_,rfl,_⟩:=h
  rfl
 .obtain⟨x,y,z,l,rfl,⟨q,dq,rfl,hq⟩,⟨a,vs,rfl,ha,hv⟩,k⟩:=h
  have c:=M.dM.c
  have n1:=M.iK
  have n2:=M.fU
  have n3:=M.kE
  refine⟨_,(aB (bF (i:=2) xP.nd rfl (Or.inl rfl) aQ)
   (aB (bR (PW.pt (aTp (aW xK (dF cU rfl M.sI boot_len (aA (pv 1) aD)) aQ (bD _)) (aQ2 (nZ (aJ (nY M) (hr.mono (by walk_at "o")) rfl M.cO.m M.cO.k M.cO.b .nil aC (aA (cJ bM (pv 1) aQ (fun _ _=>rfl)) aD)))))) (aG (bF (i:=2) xP.nd rfl (Or.inl rfl) (aJ (eV M) (hr.mono (by walk_at "o")) rfl M.bT.m M.bT.k M.bT.b .nil aC (aA (aZ (bO hr) (cJ bM (pv 1) aQ (fun _ _=>rfl)) aN (fun _ _=>rfl)) aD)))) bC)
   (aG (aP (dX M.cC.ma (dJ M) (hr.mono (by walk_at "o")) rfl M.dM.m M.cC.b .nil aC (aA (bG (pv 0) rfl) (aA (pv 2) (aA (cN sZ (cN fH (bG (pv 0) rfl) (bG (pv 0) rfl)) (pv 2)) aD)))))))),?_⟩
  try dsimp only[aFc]
  have hs:=SqL.of (K:=K) ha
  walk_at "go"
  cases l with
  |nil=>
   obtain rfl:=hv.YD
   refine nJ rfl ?_
   walk_at "go"
   exact j7 k
  |cons t r=>
   obtain⟨v,vr,rfl,hT,_⟩:=hv.GK
   refine V9 (decide_eq_true (by show (0:Int)<((vr.length+1:Nat):Int);lia)) ?_
   walk_at "go"
   refine cI hs (bH (j:=0) rfl) ?_
   walk_at "go"
   refine⟨v,t,rfl,hT,?_⟩
   walk_at "go"
   obtain⟨b,kvs,rfl,hb,kv⟩:=hT.kv
   cases t with
   |rule w' h' d'=>
    obtain rfl:kvs=_:=kv
    walk_at "go"
    refine cI hs (bH (j:=0) rfl) ?_
    walk_at "go"
    refine⟨h',rfl,?_⟩
    walk_at "go"
    exact j7 k
   |box cc w' h' d' s' sh l2=>
    obtain⟨u,hu,rfl⟩:=kv
    walk_at "go"
    refine cI hs (bH (j:=0) rfl) ?_
    walk_at "go"
    refine⟨some h',rfl,?_⟩
    walk_at "go"
    exact j7 k
   |_=>
    walk_at "go"
    exact j7 k
noncomputable def aVn (S:Addr):Sp:=fun vs H Q _=>Ex4_ fun x l(kind:Nat) g=>And5_ (vs=[x,.int kind,.int g]) (kind<3) (LAt H x l) (l.all (right 8)=true) (∀v' H',Same H H'->M4 S H' v' (if kind=0 then rowSize l else sO l g)->Q v' H')
theorem aDy {n:Nat}{l:List Thing}(h:l.all (right n)=true): ∀t∈l,Rt t:=fun t ht=>⟨n,List.all_eq_true.mp h t ht⟩
theorem YH:bJ P w K mg base (CXE P w) 21 M.jJ.f M.jJ.fd oN (aVn M.dM.C):=by
 refine M.jJ.F.okE XD (fun vs H Q E h=>?_) (fun cdv A outer s H vs Q E hr h=>?_)
 .obtain⟨_,_,_,_,rfl,_⟩:=h
  rfl
 .obtain⟨x,l,kind,g,rfl,hk,hL,hR,k⟩:=h
  refine⟨_,(aB (bR (aW cT (pv 1) (dR rfl M.aAx) (bD _)) (aG (aP (aJ (aB3 M) (hr.mono (by walk_at "o")) rfl M.gJ.m M.gJ.k M.gJ.b .nil aC (aA (pv 0) aD)))) bC)
   (aG (aP (aJ (QG M) (hr.mono (by walk_at "o")) rfl M.jD.m M.jD.k M.jD.b .nil aC (aA (pv 0) (aA (pv 2) aD)))))),?_⟩
  try dsimp only[aFc]
  match kind,hk with
  |0,_=>
   walk_at "go"
   exact⟨x,l,rfl,hL,hR,k⟩
  |1,_=>
   walk_at "go"
   exact⟨x,l,g,rfl,hL,aDy hR,k⟩
  |2,_=>
   walk_at "go"
   exact⟨x,l,g,rfl,hL,aDy hR,k⟩
noncomputable def aPb (S:Addr):Sp:=fun vs H Q _=>Ex5_ fun x s(kind how:Nat) a=>And5_ (vs=[x,.int kind,.int how,.int a]) (kind<3) (how<3) (M4 S H x s) (Q (.int (over (if kind=0 then s.w else s.h) (SbSpec.howOf how a))) H)
theorem KC:bJ P w K mg base (CXE P w) 1 M.eZ.f M.eZ.fd jM (aPb M.dM.C):=by
 refine M.eZ.F.okE J9 (fun vs H Q E h=>?_) (fun cdv A outer s H vs Q E hr h=>?_)
 .obtain⟨_,_,_,_,_,rfl,_⟩:=h
  rfl
 .obtain⟨x,z,kind,how,a,rfl,hk,hh,⟨q,dq,rfl,hq⟩,k⟩:=h
  have c:=M.dM.c
  have n1:=M.iK
  have n2:=M.fU
  refine⟨_,(aB (bR (aW cT (pv 2) (dR rfl M.T8) (bD _)) (aG (aP aQ)) bC)
   (aB (bR (aW cT (pv 2) (dR rfl M.aAy) (bD _)) (aG (aP (cN sZ (pv 3) (lK (aW cT (pv 1) (dR rfl M.aAx) (bD _)) (bG (pv 0) rfl) (bG (pv 0) rfl))))) bC)
   (aG (aP (pv 3))))),?_⟩
  try dsimp only[aFc]
  match how,hh with
  |0,_=>
   walk_at "go"
   exact k
  |1,_=>
   match kind,hk with
   |0,_=>
    walk_at "go"
    exact k
   |1,_=>
    walk_at "go"
    exact k
   |2,_=>
    walk_at "go"
    exact k
  |2,_=>
   walk_at "go"
   exact k
noncomputable def aMz (l:List Thing)(kind:Nat)(s:Size)(x:Int):Size:=if kind=0 then⟨s.w+x,s.h,s.d⟩ else if kind=1 then⟨s.w,s.h+x,s.d⟩ else⟨s.w,firstHeight l,s.h+x+s.d-firstHeight l⟩
noncomputable def aPc (S:Addr):Sp:=fun vs H Q _=>Ex6_ fun y l(kind:Nat) x s a=>And5_ (vs=[y,.int kind,x,.int a]) (kind<3) (LAt H y l) (M4 S H x s) (∀v' H',Same H H'->M4 S H' v' (aMz l kind s a)->Q v' H')
theorem aDz:bJ P w K mg base (CXE P w) 4 M.oG.f M.oG.fd uL (aPc M.dM.C):=by
 refine M.oG.F.okE O6 (fun vs H Q E h=>?_) (fun cdv A outer s H vs Q E hr h=>?_)
 .obtain⟨_,_,_,_,_,_,rfl,_⟩:=h
  rfl
 .obtain⟨y,l,kind,x,z,a,rfl,hk,hL,⟨q,dq,rfl,hq⟩,k⟩:=h
  have c:=M.dM.c
  have n1:=M.iK
  have n2:=M.fU
  have n3:=M.kE
  refine⟨_,(aB (bR (aW cT (pv 1) (dR rfl M.aAx) (bD _)) (aG (aP (dX M.cC.ma (dJ M) (hr.mono (by walk_at "o")) rfl M.dM.m M.cC.b .nil aC (aA (cN fH (bG (pv 2) rfl) (pv 3)) (aA (bG (pv 2) rfl) (aA (bG (pv 2) rfl) aD)))))) bC)
   (aB (bF (i:=4) O6.nd rfl (Or.inl rfl) (dX M.cC.ma (dJ M) (hr.mono (by walk_at "o")) rfl M.dM.m M.cC.b .nil aC (aA (bG (pv 2) rfl) (aA (cN fH (bG (pv 2) rfl) (pv 3)) (aA (bG (pv 2) rfl) aD)))))
   (aB (bR (aW cT (pv 1) (dR rfl M.aDm) (bD _)) (aG (aP (pv 4))) bC)
   (aG (aP (aJ (aDx M) (hr.mono (by walk_at "o")) rfl M.oE.m M.oE.k M.oE.b .nil aC (aA (pv 4) (aA (pv 0) aD)))))))),?_⟩
  try dsimp only[aFc]
  match kind,hk with
  |0,_=>
   walk_at "go"
   exact j7 k
  |1,_=>
   walk_at "go"
   refine GP fun p H1 s1 h1=>?_
   walk_at "go"
   exact k _ H1 s1 h1
  |2,_=>
   walk_at "go"
   refine GP fun p H1 s1 h1=>?_
   walk_at "go"
   exact⟨_,y,_,l,rfl,h1,hL.mono s1,fun v' H2 s2 h2=>k v' H2 (s1.trans s2) h2⟩
theorem aVo {X:Cx}{b:List Stmt}{e:Expr}{p:Pos}{T:TE}(h:PE X e T)(he:b=[.Return (some e) p]):PSs X b (aO3 T):=by
 subst he
 exact aG (aP h)
theorem bk:([kk "kind",kk "direction",kk "width",kk "height",kk "depth",kk "order",kk "numerator",kk "denominator",kk "shift",kk "things"]:List Key).Nodup:=by decide +kernel
noncomputable def aSy (S F:Addr):Sp:=fun vs H Q _=>Ex8_ fun y l(kind:Nat) x s u st f=>And6_ (vs=[y,.int kind,x,u]) (kind<3) (LAt H y l) (M4 S H x s) (aAa F H u st f) (∀v' H',Same H H'->Th H' v' (.box (decide (kind≠0)) s.w s.h s.d st 0 l)->Q v' H')
theorem aN0:bJ P w K mg base (CXE P w) 1 M.yE.f M.yE.fd JC (aSy M.dM.C M.qU.C):=by
 refine M.yE.F.okE aM8 (fun vs H Q E h=>?_) (fun cdv A outer s H vs Q E hr h=>?_)
 .obtain⟨_,_,_,_,_,_,_,_,rfl,_⟩:=h
  rfl
 .obtain⟨y,l,kind,x,z,u,st,f,rfl,hk,hL,⟨q,dq,rfl,hq⟩,⟨q2,dq2,rfl,hq2⟩,k⟩:=h
  have c:=M.dM.c
  have n1:=M.iK
  have n2:=M.fU
  have n3:=M.kE
  have c2:=M.qU.c
  have n4:=M.VB
  have n5:=M.aA8
  have n6:=M.VD
  obtain⟨bb,hbb⟩: ∃bb,bb=gA JB:=⟨_,rfl⟩
  rw[<- hbb]
  refine⟨_,aVo (aQh (mO aN aN (mO aN (lK (aW cT (pv 1) (dR (by rfl) M.aAx) (bD _)) (dR (by rfl) M.aAx) (dR (by rfl) M.aDm)) (mO aN (bG (pv 2) (by rfl)) (mO aN (bG (pv 2) (by rfl)) (mO aN (bG (pv 2) (by rfl)) (mO aN (bG (pv 3) (by rfl)) (mO aN (bG (pv 3) (by rfl)) (mO aN (bG (pv 3) (by rfl)) (mO aN aQ (mO aN (pv 0) aIk)))))))))) (by rfl) (by rfl) (List.cons_ne_nil _ _) (by decide)) hbb,?_⟩
  try dsimp only[aFc]
  walk_at "go"
  intro p np
  have s1:=aU np (.dK [])
  have hq':=s1 _ _ hq
  have hq2':=s1 _ _ hq2
  walk_at "go"
  have fin: ∀b:Bool,b=decide (kind≠0)-> ∀H',H'=upd (upd H p (.dK [])) p (.dK [(kk "kind",.str "box"),(kk "direction",.int (flag b)),(kk "width",.int z.w),(kk "height",.int z.h),(kk "depth",.int z.d),(kk "order",.int st.order),(kk "numerator",.int st.num),(kk "denominator",.int st.den),(kk "shift",.int 0),(kk "things",y)])->Q (.ref p) H':=by
   intro b hb H' e
   subst e
   rw[gD]
   refine k _ _ (aU np _) ?_
   rw[<- hb]
   exact Th.mk aH ⟨y,hL.mono (aU np _),rfl⟩
  match kind,hk with
  |0,_=>
   walk_at "go"
   exact aDw (Q:=Q) [(kk "kind",.str "box"),(kk "direction",.int (flag false)),(kk "width",.int z.w),(kk "height",.int z.h),(kk "depth",.int z.d),(kk "order",.int st.order),(kk "numerator",.int st.num),(kk "denominator",.int st.den),(kk "shift",.int 0),(kk "things",y)] aH rfl (by show 10<=15;decide) bk (fin false rfl _ rfl)
  |1,_=>
   walk_at "go"
   exact aDw (Q:=Q) [(kk "kind",.str "box"),(kk "direction",.int (flag true)),(kk "width",.int z.w),(kk "height",.int z.h),(kk "depth",.int z.d),(kk "order",.int st.order),(kk "numerator",.int st.num),(kk "denominator",.int st.den),(kk "shift",.int 0),(kk "things",y)] aH rfl (by show 10<=15;decide) bk (fin true rfl _ rfl)
  |2,_=>
   walk_at "go"
   exact aDw (Q:=Q) [(kk "kind",.str "box"),(kk "direction",.int (flag true)),(kk "width",.int z.w),(kk "height",.int z.h),(kk "depth",.int z.d),(kk "order",.int st.order),(kk "numerator",.int st.num),(kk "denominator",.int st.den),(kk "shift",.int 0),(kk "things",y)] aH rfl (by show 10<=15;decide) bk (fin true rfl _ rfl)
theorem aJx {l:List Thing}{x a:Int}(h:fit l x= .full a):0<a:=by
 unfold fit at h
 split at h
 .split at h <;>cases h
 .split at h
  .split at h
   .split at h
    .split at h
     .cases h;lia
     .cases h
    .cases h
   .cases h;lia
  .cases h
noncomputable def bBl (F:Addr):Sp:=fun vs H Q _=>Ex4_ fun u st f(x:Int)=>And4_ (vs=[.int x,u]) (aAa F H u st f) ((∀a,f= .full a->0<a)) (∀v' H',Same H H'->NAt H' v' (SbSpec.saidOf f x)->Q v' H')
theorem aBo:bJ P w K mg base (CXE P w) 1 M.m9.f M.m9.fd rK (bBl M.qU.C):=by
 refine M.m9.F.okE aBe (fun vs H Q E h=>?_) (fun cdv A outer s H vs Q E hr h=>?_)
 .obtain⟨_,_,_,_,rfl,_⟩:=h
  rfl
 .obtain⟨u,st,f,x,rfl,⟨q2,dq2,rfl,hq2⟩,hpos,k⟩:=h
  have c2:=M.qU.c
  have n5:=M.sJ
  have n6:=M.vD
  refine⟨_,(aB (bR (aW xK (bG (pv 1) rfl) aQ (bD _)) (aG (aP (cX (aA (dR rfl M.aDn) (aA (bG (pv 1) rfl) aD))))) bC)
   (aB (bR (aW cT (bG (pv 1) rfl) aQ (bD _)) (aG (aP (cX (aA (dR rfl M.aH8) (aA aQ aD))))) bC)
   (aG (aP (cX (aA (lK (aW xK (pv 0) aQ (bD _)) (dR rfl M.aQw) (dR rfl M.aQx)) (aA (bG (pv 1) rfl) aD))))))),?_⟩
  try dsimp only[aFc]
  cases f with
  |full a=>
   have ha:=hpos a rfl
   walk_at "go"
   refine V9 (decide_eq_true ha) ?_
   walk_at "go"
   refine⟨by show 2<=sizeLine;decide,fun p np=>k _ _ (aU np _) ⟨p,rfl,aH⟩⟩
  |fits b=>
   walk_at "go"
   unfold SbSpec.saidOf at k
   refine eN (fun c=>?_) (fun c=>?_)
   .have e:b=0:=by have:=of_decide_eq_true c;injection this
    subst e
    walk_at "go"
    refine⟨by show 2<=sizeLine;decide,fun p np=>k _ _ (aU np _) ⟨p,rfl,aH⟩⟩
   .have e: ¬b=0:=fun e=>c (by subst e;exact decide_eq_true rfl)
    simp only[if_neg e] at k
    walk_at "go"
    refine eN (fun c=>?_) (fun c=>?_)
    .have c:0<x:=of_decide_eq_true c
     simp only[if_pos c] at k
     walk_at "go"
     refine⟨by show 2<=sizeLine;decide,fun p np=>k _ _ (aU np _) ⟨p,rfl,aH⟩⟩
    .have c: ¬0<x:=fun z=>c (decide_eq_true z)
     simp only[if_neg c] at k
     walk_at "go"
     refine⟨by show 2<=sizeLine;decide,fun p np=>k _ _ (aU np _) ⟨p,rfl,aH⟩⟩
end
end Pr
end
section
namespace Pr
open PySem PySem.Spec PyProof.Rows L2 SbThing SbPack
section
variable{P:Program}{w:World}{K:PySem.W.Frag}{mg:Str->Option Value}{base:Heap}(M:Md w K mg)
noncomputable def natOf (kind:Nat)(l:List Thing)(g:Int):Int:=if kind=0 then(rowSize l).w else columnSum l-columnDepth l g
theorem aSz {kind:Nat}{l:List Thing}{g:Int}(h:Bd l)(hR:l.all (right 8)=true)(hg: -1073741823<=g/\g<=1073741823): -(2^62)<natOf kind l g/\natOf kind l g<2^62:=by
 have h1:=aDu l h.rt
 have h2:=aMx h.rt g hg
 have h3:=h.len
 have h4:=h.sz
 have h5:=aB2 hR
 unfold natOf
 split
 .have e:(rowSize l).w=(rowOf 8 l).w:=rfl
  rw[e]
  lia
 .lia
theorem aHd (kind how:Nat)(l:List Thing)(a g:Int)(hk:kind<3):
  SbSpec.packed kind l (SbSpec.howOf how a) g=(let x:=over (natOf kind l g) (SbSpec.howOf how a)
   let s:=aMz l kind (if kind=0 then rowSize l else sO l g) x
   (.box (decide (kind≠0)) s.w s.h s.d (setting l x) 0 l,x)):=by
 match kind,hk with
 |0,_=>rfl
 |1,_=>rfl
 |2,_=>rfl
noncomputable def pkf (vb vs:V):List (Str×V):=[("box",vb),("said",vs)]
noncomputable def aN1 (C:Addr):Sp:=fun vs H Q _=>Ex8_ fun p dx x l(kind how:Nat) a g=>And10_ (vs=[.ref p,x,.int kind,.int how,.int a,.int g]) (H p=some (.ins C dx [])) (kind<3) (how<3) (LAt H x l) (Bd l) (l.all (right 8)=true) ((-1073741823<=a/\a<=1073741823)) ((-1073741823<=g/\g<=1073741823)) (∀vb vd H',H' p=some (.ins C dx (pkf vb vd))->Th H' vb (SbSpec.packed kind l (SbSpec.howOf how a) g).1->NAt H' vd (SbSpec.saidOf (fit l (SbSpec.packed kind l (SbSpec.howOf how a) g).2) (SbSpec.packed kind l (SbSpec.howOf how a) g).2)->Sb p H H'->Q .non H')
theorem aE0:bJ P w K mg base (CXE P w) 22 M.qN.f M.qN.fd uM (aN1 M.zQ.C):=by
 refine M.qN.F.okE rM (fun vs H Q E h=>?_) (fun cdv A outer s H vs Q E hr h=>?_)
 .obtain⟨_,_,_,_,_,_,_,_,rfl,_⟩:=h
  rfl
 .obtain⟨p,dx,x,l,kind,how,a,g,rfl,hp,hk,hh,hL,hB,hR,ha,hg,k⟩:=h
  have c:=M.zQ.c
  have n1:=M.QD
  have n2:=M.K7
  refine⟨_,(aB (bF (i:=6) rM.nd rfl (Or.inl rfl) (aJ (YH M) (hr.mono (by walk_at "o")) rfl M.jJ.m M.jJ.k M.jJ.b .nil aC (aA (pv 1) (aA (pv 2) (aA (pv 5) aD)))))
   (aB (bF (i:=7) rM.nd rfl (Or.inl rfl) (aJ (KC M) (hr.mono (by walk_at "o")) rfl M.eZ.m M.eZ.k M.eZ.b .nil aC (aA (pv 6) (aA (pv 2) (aA (pv 3) (aA (pv 4) aD))))))
   (aB (bF (i:=8) rM.nd rfl (Or.inl rfl) (aJ (aB1 M) (hr.mono (by walk_at "o")) rfl M.pL.m M.pL.k M.pL.b .nil aC (aA (aJ (aJw M) (hr.mono (by walk_at "o")) rfl M.tV.m M.tV.k M.tV.b .nil aC (aA (pv 1) aD)) (aA (pv 7) aD))))
   (aB (fW (pv 0) (aJ (aN0 M) (hr.mono (by walk_at "o")) rfl M.yE.m M.yE.k M.yE.b .nil aC (aA (pv 1) (aA (pv 2) (aA (aJ (aDz M) (hr.mono (by walk_at "o")) rfl M.oG.m M.oG.k M.oG.b .nil aC (aA (pv 1) (aA (pv 2) (aA (pv 6) (aA (pv 7) aD))))) (aA (pv 8) aD))))) rfl)
   (aG (fW (pv 0) (aJ (aBo M) (hr.mono (by walk_at "o")) rfl M.m9.m M.m9.k M.m9.b .nil aC (aA (pv 7) (aA (pv 8) aD))) rfl)))))),?_⟩
  try dsimp only[aFc]
  walk_at "go"
  refine⟨x,l,kind,g,rfl,hk,hL,hR,fun v1 H1 s1 z1=>?_⟩
  walk_at "go"
  refine⟨v1,_,kind,how,a,rfl,hk,hh,z1,?_⟩
  have e1:(if kind=0 then(if kind=0 then rowSize l else sO l g).w else(if kind=0 then rowSize l else sO l g).h)=natOf kind l g:=by
   unfold natOf
   split <;>rfl
  rw[e1]
  have hx: -(2^63)<over (natOf kind l g) (SbSpec.howOf how a)/\over (natOf kind l g) (SbSpec.howOf how a)<2^63:=by
   have:=aSz (kind:=kind) hB hR hg
   match how,hh with
   |0,_=>show -(2^63)<(0:Int)/\(0:Int)<2^63;decide
   |1,_=>
    show -(2^63)<a-natOf kind l g/\a-natOf kind l g<2^63
    lia
   |2,_=>
    show -(2^63)<a/\a<2^63
    lia
  rw[aHd kind how l a g hk] at k
  generalize over (natOf kind l g) (SbSpec.howOf how a)=y at*
  walk_at "go"
  refine⟨x,l,rfl,hL.mono s1,hB.rt,fun pg pa pb H2 s2 G=>?_⟩
  walk_at "go"
  refine⟨pg,pa,pb,l,y,rfl,G,hx.1,hx.2,hB.bnd,fun v3 H3 s3 F3=>?_⟩
  have s03:Same H H3:=(s1.trans s2).trans s3
  walk_at "go"
  refine⟨x,l,kind,v1,_,y,rfl,hk,hL.mono s03,z1.mono (s2.trans s3),fun v4 H4 s4 z4=>?_⟩
  walk_at "go"
  refine⟨x,l,kind,v4,_,v3,_,_,rfl,hk,hL.mono (s03.trans s4),z4,F3.mono s4,fun v5 H5 s5 t5=>?_⟩
  have hp5:=(s03.trans (s4.trans s5)) _ _ hp
  walk_at "go"
  refine⟨v3,setting l y,fit l y,y,rfl,?_,fun a ha=>aJx ha,fun v6 H6 s6 n6=>?_⟩
  .obtain⟨q,dq,rfl,hq⟩:=F3.mono (s4.trans s5)
   refine⟨q,dq,rfl,?_⟩
   rw[aM (jO hq hp5 (by intro z;injection z with _ _ z;cases z))]
   exact hq
  .have hp6:=s6 p _ aH
   walk_at "go"
   have t6:Th H6 v5 _:=(t5.kp (Kp.ins hp5)).kp (Kp.same s6)
   refine k v5 v6 _ ?_ (t6.kp (Kp.ins hp6)) ?_ (fun d o hd hne=>?_)
   .rw[aH]
    rfl
   .obtain⟨q,e,hq⟩:=n6
    refine⟨q,e,?_⟩
    rw[aM (jO hq hp6 (by intro z;cases z))]
    exact hq
   .rw[aM hne]
    exact s6 d o ((aM hne).trans ((s03.trans (s4.trans s5)) d o hd))
end
end Pr
end
section
namespace Pr
open PySem PySem.Spec PyProof.Rows L2 SbThing SbPack
section
variable{P:Program}{w:World}{K:PySem.W.Frag}{mg:Str->Option Value}{base:Heap}(M:Md w K mg)
theorem rdC:RdC K mg M.bL.C M.bY:=⟨M.bL.c,M.pX,M.uV,M.bL.m,M.dG,M.sI⟩
theorem yF:bJ P w K mg base (CXE P w) 1 M.jA.f M.jA.fd pJ (aJf K M.bL.C):=(aUv M.jA.F (rdC M)).noE
theorem vU:bJ P w K mg base (CXE P w) 1 M.cG.f M.cG.fd gG (Y0 K M.bL.C):=(Y4 M.cG.F (rdC M)).noE
theorem sU:bJ P w K mg base (CXE P w) 2 M.cP.f M.cP.fd mW (aP4 K M.bL.C M.bY):=aXe M.cP.F (rdC M) (Y4 M.cG.F (rdC M)) M.cG.b M.cG.m
theorem YJ:bJ P w K mg base (CXE P w) 1 M.pP.f M.pP.fd xT aH5:=(aMl M.pP.F M.tb).noE
theorem tk {C W p:Addr}{a:Addr×Bool}{H:Hp}{u:List Int}{Q:VK}{E:XK}(hR:gQ K C a H p u)(xw:u=[]->XW W p H E)(k: ∀x r,u=x::r-> ∀H':Hp,gQ K C a H' p r->Sb p H H'->Q (.int x) H'):aP4 K C W ([.ref p]++[]) H Q E:=
 ⟨p,a,u,rfl,hR,match u,k,xw with
  |[],_,xw=>xw rfl H (.refl p H)
  |x::r,k,_=>k x r rfl⟩
noncomputable def pNum (C W:Addr):Sp:=fun vs H Q E=>Ex4_ fun(p:Addr)(a:Addr×Bool)(u:List Int)(form:String)=>And5_ (vs=[.ref p,.str (Str.ofString form)]) (gQ K C a H p u) ((_root_.M.nO form).isSome=true) ((_root_.M.vZ form u=none->XW W p H E)) (∀x r,_root_.M.vZ form u=some (.int x,r)-> ∀H':Hp,gQ K C a H' p r->Sb p H H'->Q (.int x) H')
theorem yG:bJ P w K mg base (CXE P w) 3 M.g8.f M.g8.fd uP (pNum (K:=K) M.bL.C M.bY):=by
 refine M.g8.F.okE O9 (fun vs H Q E h=>?_) (fun cdv A outer s H vs Q E hr h=>?_)
 .obtain⟨p,a,u,form,rfl,_⟩:=h
  rfl
 .obtain⟨p,a,u,form,rfl,hR,hs,xw,k⟩:=h
  refine⟨_,(aB (bF (i:=2) O9.nd rfl (Or.inl rfl) (lN (pv 0) M.bL.c M.cP.m (sU M) (hr.mono (by walk_at "o")) M.cP.b .nil aC))
   (aB (bR (U3 (nZ (aJ (YJ M) (hr.mono (by walk_at "o")) rfl M.pP.m M.pP.k M.pP.b .nil aC (aA (pv 2) (aA (pv 1) aD))))) (aG (iH iR rfl rfl rfl M.dG)) bC)
   (aG (aP (pv 2))))),?_⟩
  try dsimp only[aFc]
  obtain⟨dx,i,hp⟩:=hR.ins
  walk_at "go"
  refine tk hR (fun e=>xw (by subst e;rfl)) fun x r hu H1 R1 s1=>?_
  subst hu
  walk_at "go"
  refine⟨x,form,rfl,hs,?_⟩
  walk_at "go"
  refine eN (fun c=>?_) (fun c=>?_)
  .have e: ¬_root_.M.inR form x=true:=by simpa using c
   exact xw (by rw[_root_.M.vZ,if_neg e]) H1 s1
  .have e:_root_.M.inR form x=true:=by simpa using c
   walk_at "go"
   exact k x r (by rw[_root_.M.vZ,if_pos e]) H1 R1 s1
noncomputable def bDx (C W:Addr):Sp:=fun vs H Q E=>Ex3_ fun(p:Addr)(a:Addr×Bool)(u:List Int)=>And4_ (vs=[.ref p]) (gQ K C a H p u) ((_root_.M.qY u=none->XW W p H E)) (∀x r,_root_.M.qY u=some (x,r)-> ∀(v:V)(H':Hp),gQ K C a H' p r->Sb p H H'->gZ (Fr H) H' v x->Q v H')
theorem aJy:bJ P w K mg base (CXE P w) 4 M.tX.f M.tX.fd z9 (bDx (K:=K) M.bL.C M.bY):=by
 refine M.tX.F.okE XH (fun vs H Q E h=>?_) (fun cdv A outer s H vs Q E hr h=>?_)
 .obtain⟨p,a,u,rfl,_⟩:=h
  rfl
 .obtain⟨p,a,u,rfl,hR,xw,k⟩:=h
  refine⟨_,(aB (bF (i:=1) XH.nd rfl (Or.inl rfl) (lN (pv 0) M.bL.c M.cP.m (sU M) (hr.mono (by walk_at "o")) M.cP.b .nil aC))
   (aB (bR (aW cT (pv 1) aQ (bD _)) (aG (aP qW)) bC)
   (aB (bR (aW aQ7 (pv 1) aQ (bD _)) (aG (iH iR rfl rfl rfl M.dG)) bC)
   (aG (aP (aJ (yG M) (hr.mono (by walk_at "o")) rfl M.g8.m M.g8.k M.g8.b .nil aC (aA (pv 0) (aA aN aD)))))))),?_⟩
  try dsimp only[aFc]
  obtain⟨dx,i,hp⟩:=hR.ins
  walk_at "go"
  refine tk hR (fun e=>xw (by subst e;rfl)) fun x r hu H1 R1 s1=>?_
  subst hu
  walk_at "go"
  refine eN (fun c=>?_) (fun c=>?_)
  .have e:x=0:=by have:=of_decide_eq_true c;injection this
   subst e
   walk_at "go"
   exact k (.sd none) r rfl .non H1 R1 s1 .sd0
  .have n0: ¬x=0:=fun e=>c (by subst e;exact decide_eq_true rfl)
   walk_at "go"
   refine eN (fun c=>?_) (fun c=>?_)
   .have n1: ¬x=1:=fun e=>by subst e;exact absurd c (by decide +kernel)
    exact xw (by rw[_root_.M.qY.eq_def];simp[n0,n1]) H1 s1
   .have e:x=1:=by simpa using c
    subst e
    walk_at "go"
    refine⟨p,a,r,"length",rfl,R1,rfl,fun e=>(xw ?_).on s1,fun y r' hy H2 R2 s2=>?_⟩
    .rw[_root_.M.qY.eq_def]
     cases r with
     |nil=>rfl
     |cons z r=>
      rw[_root_.M.vZ] at e
      by_cases q:_root_.M.inR "length" z=true
      .rw[if_pos q] at e
       cases e
      .simp[q]
    .refine k (.sd (some y)) r' ?_ (.int y) H2 R2 (s1.trans s2) .sd1
     rw[_root_.M.qY.eq_def]
     cases r with
     |nil=>cases hy
     |cons z r=>
      rw[_root_.M.vZ] at hy
      by_cases q:_root_.M.inR "length" z=true
      .rw[if_pos q] at hy
       injection hy with hy
       injection hy with h1 h2
       injection h1 with h1
       subst h1 h2
       simp[q]
      .rw[if_neg q] at hy
       cases hy
noncomputable def pThing (C W:Addr)(n:Nat):Sp:=fun vs H Q E=>Ex3_ fun(p:Addr)(a:Addr×Bool)(u:List Int)=>And4_ (vs=[.ref p,.int n]) (gQ K C a H p u) ((_root_.M.dI n u=none->XW W p H E)) (∀x r,_root_.M.dI n u=some (x,r)-> ∀(v:V)(H':Hp),gQ K C a H' p r->Sb p H H'->eX (Fr H) H' v x->Q v H')
noncomputable def bBm (C W:Addr)(n:Nat):Sp:=fun vs H Q E=>Ex3_ fun(p:Addr)(a:Addr×Bool)(u:List Int)=>And4_ (vs=[.ref p,.int n]) (gQ K C a H p u) ((_root_.M.v7 (_root_.M.dI n) u=none->XW W p H E)) (∀x r,_root_.M.v7 (_root_.M.dI n) u=some (x,r)-> ∀(v:V)(H':Hp),gQ K C a H' p r->Sb p H H'->eX (Fr H) H' v x->Q v H')
noncomputable def pThings (C W:Addr)(n:Nat):Sp:=fun vs H Q E=>Ex3_ fun(p:Addr)(a:Addr×Bool)(u:List Int)=>And4_ (vs=[.ref p,.int n]) (gQ K C a H p u) ((_root_.M.nA (_root_.M.dI n) u=none->XW W p H E)) (∀x r,_root_.M.nA (_root_.M.dI n) u=some (x,r)-> ∀(v:V)(H':Hp),gQ K C a H' p r->Sb p H H'->gZ (Fr H) H' v (.lst x)->Q v H')
noncomputable def aVp (C W:Addr)(n:Nat):Sp:=fun vs H Q E=>Ex4_ fun(p:Addr)(a:Addr×Bool)(u:List Int)(form:String)=>And5_ (vs=[.ref p,.str (Str.ofString form),.int n]) (gQ K C a H p u) (sG form) ((_root_.M.sW (_root_.M.KY n) form u=none->XW W p H E)) (∀x r,_root_.M.sW (_root_.M.KY n) form u=some (x,r)-> ∀(v:V)(H':Hp),gQ K C a H' p r->Sb p H H'->gZ (Fr H) H' v x->Q v H')
noncomputable def aVq (s:Nat->Sp):Nat->Sp
 |0=>fun _ _ _ _=>False
 |n+1=>s n
theorem aN2 (n:Nat)(GT:bJ P w K mg base (CXE P w) (4+3*n) M.dW.f M.dW.fd kO (aVq (pThings (K:=K) M.bL.C M.bY) n))(GR:bJ P w K mg base (CXE P w) (4+3*n) M.fM.f M.fM.fd jR (aVq (bBm (K:=K) M.bL.C M.bY) n)):
  bJ P w K mg base (CXE P w) (5+3*n) M.mG.f M.mG.fd rT (aVp (K:=K) M.bL.C M.bY n):=by
 refine mU (M.mG.F.okE (k:=4+3*n) aFv (fun vs H Q E h=>?_) (fun cdv A outer s H vs Q E hr h=>?_)) (by lia)
 .obtain⟨p,a,u,form,rfl,_⟩:=h
  rfl
 .obtain⟨p,a,u,form,rfl,hR,hf,xw,k⟩:=h
  refine⟨_,(aB (bR (PW.pt (aCf (aW cT (pv 1) aN (bD _)) (U0 (aW cT (pv 1) aN (bD _))))) (aB (bR (aW cT (pv 2) aQ (bD _)) (aG (iH iR rfl rfl rfl M.dG)) bC)
   (aB (bR (aW cT (pv 1) aN (bD _)) (aG (aP (aJ GT (hr.mono (by walk_at "o")) rfl M.dW.m M.dW.k M.dW.b .nil aC (aA (pv 0) (aA (cN sZ (pv 2) aQ) aD))))) bC)
   (aG (aP (aJ GR (hr.mono (by walk_at "o")) rfl M.fM.m M.fM.k M.fM.b .nil aC (aA (pv 0) (aA (cN sZ (pv 2) aQ) aD))))))) bC)
   (aB (bR (aW cT (pv 1) aN (bD _)) (aG (aP (aJ (aJy M) (hr.mono (by walk_at "o")) rfl M.tX.m M.tX.k M.tX.b .nil aC (aA (pv 0) aD)))) bC)
   (aG (aP (aJ (yG M) (hr.mono (by walk_at "o")) rfl M.g8.m M.g8.k M.g8.b .nil aC (aA (pv 0) (aA (pv 1) aD))))))),?_⟩
  try dsimp only[aFc]
  rcases hf with rfl|rfl|rfl|hn
  .walk_at "go"
   cases n with
   |zero=>
    walk_at "go"
    exact xw rfl H (.refl p H)
   |succ m=>
    walk_at "go"
    rw[show ((m+1:Nat):Int)-1=(m:Int) by lia]
    refine⟨p,a,u,rfl,hR,fun e=>xw ?_,fun x r e v H' R1 s1 f1=>k (.lst x) r ?_ v H' R1 s1 f1⟩
    .show _root_.M.sW (some (_root_.M.dI m)) "list" u=none
     rw[_root_.M.nQ,e]
     rfl
    .show _root_.M.sW (some (_root_.M.dI m)) "list" u=_
     rw[_root_.M.nQ,e]
     rfl
  .walk_at "go"
   cases n with
   |zero=>
    walk_at "go"
    exact xw rfl H (.refl p H)
   |succ m=>
    walk_at "go"
    rw[show ((m+1:Nat):Int)-1=(m:Int) by lia]
    refine⟨p,a,u,rfl,hR,fun e=>xw ?_,fun x r e v H' R1 s1 f1=>k (.thing x) r ?_ v H' R1 s1 (.thing f1)⟩
    .show _root_.M.sW (some (_root_.M.dI m)) "thing" u=none
     rw[_root_.M.WT,e]
     rfl
    .show _root_.M.sW (some (_root_.M.dI m)) "thing" u=_
     rw[_root_.M.WT,e]
     rfl
  .walk_at "go"
   exact⟨p,a,u,rfl,hR,fun e=>xw (by rw[_root_.M.yP];exact e),fun x r e v H' R1 s1 f1=>k x r (by rw[_root_.M.yP];exact e) v H' R1 s1 f1⟩
  .have h1: ¬form="list":=fun e=>by subst e;cases hn
   have h2: ¬form="thing":=fun e=>by subst e;cases hn
   have h3: ¬form="side":=fun e=>by subst e;cases hn
   have e0:_root_.M.sW (_root_.M.KY n) form u=_root_.M.vZ form u:=_root_.M.aIn ⟨h1,h2,h3⟩
   rw[e0] at xw k
   walk_at "go"
   refine nJ ((pW _ _).trans (decide_eq_false h1)) ?_
   walk_at "go"
   refine nJ ((pW _ _).trans (decide_eq_false h2)) ?_
   walk_at "go"
   refine nJ ((pW _ _).trans (decide_eq_false h3)) ?_
   walk_at "go"
   exact⟨p,a,u,form,rfl,hR,hn,xw,fun x r e H' R1 s1=>k (.int x) r e (.int x) H' R1 s1 .int⟩
end
end Pr
end
section
namespace Pr
open PySem PySem.Spec PyProof.Rows L2 SbThing SbPack
section
variable{K:PySem.W.Frag}{σ:L2.St}{H:Hp}
theorem aC9 {i j:Nat}{b:Addr}{x y:V}{QS:L2.St->Hp->Prop}(h:SqT K H b [x,y])(k:QS ((σ.set i (some x)).set j (some y)) H):aWs K 2 (aAo (M7 i) (aAo (M7 j) aWr)) (.ref b) σ H QS:=⟨b,[x,y],rfl,h,rfl,x,[y],rfl,y,[],rfl,rfl,k⟩
theorem aJz {w:World}{a:Addr}{ty:TE}{Q:VK}(h:ty σ H fun y H1=> ∃x u v,y= .str x/\aP3 K w a x u/\RelV v u/\Q v H1):aZf K w a ty σ H Q:=h
theorem bBn {p:Addr}{ys:List V}{QQ:List V->Prop}(hs:SqT K H p ys)(h:QQ ys): ∃p' ys',([V.ref p]:List V)=[.ref p']/\(SqL K H p' ys'\/SqT K H p' ys')/\QQ ys':=⟨p,ys,rfl,.inr hs,h⟩
end
theorem aE1 {X:Cx}{s:Stmt}{i:Nat}{x:Str}{pos' pos pd:Pos}{keys:List (Option Expr)}{values:List Expr}{trs:List (TE×TE)}(e:s= .Assign [.Name x pos'] (.Dict keys values pd) pos)(hN:X.N.Nodup)(hi:X.N[i]?=some x)(hx:Loc X.env.scope x)
  (h:PPs X pd keys values trs) (hall:keys.all (·.isSome)=true) (hl:keys.length=values.length) (h0:keys≠[]) (h15:keys.length<=15) (hs:swapsWith (.Dict keys values pd) (some (.Name x pos')) pos.line X.env=pure false) (hf:X.fn x=true\/X.env.scope.names.lookup x=some .local):PS X s (aWt (aUi trs) (M7 i)):=by
 subst e
 exact bF hN hi hx (aQh h hall hl h0 h15) hs hf
noncomputable def stm (b:List Stmt)(i:Nat):Stmt:=b.getD i (.Pass ⟨0,0,0,0⟩)
theorem aR5 (k:Key)(v:V):zV [] [(k,v)]=[(k,v)]:=rfl
theorem aHe {H2:Hp}{p:Addr}{QQ:List (Key×V)->Prop}{ps:List (V×V)}(kvs:List (Key×V))(h1:H2 p=some (.dK []))(h2:ps=kvs.map (fun kv=>(kV kv.1,kv.2)))(h3:kvs.length<=15)(q:QQ kvs):
  H2 p=some (.dK [])/\ ∃kvs:List (Key×V),ps=kvs.map (fun kv=>(kV kv.1,kv.2))/\kvs.length<=15/\QQ kvs:=⟨h1,kvs,h2,h3,q⟩
theorem big':(10000000:Nat)<=sizeLine:=by decide
theorem aHf: ∀j,j<12->(_root_.M.bW j).length<=9:=by decide
theorem QL {K:PySem.W.Frag}{C:Addr}{a:Addr×Bool}{H:Hp}{p d:Addr}{u:List Int}{o:HO}(h:gQ K C a H p u)(n:H d=none):gQ K C a (upd H d o) p u:=by
 obtain⟨dx,ns,i,hp,hS,r⟩:=h
 exact⟨dx,ns,i,aU n o _ _ hp,hS.same (aU n o),r⟩
theorem aVr {K:PySem.W.Frag}{C:Addr}{a:Addr×Bool}{H:Hp}{p d:Addr}{u:List Int}{o:HO}{kvs:List (Key×V)}(h:gQ K C a H p u)(n:d≠p)(hd:H d=some (.dK kvs)):gQ K C a (upd H d o) p u:=by
 obtain⟨dx,ns,i,hp,hS,r⟩:=h
 refine⟨dx,ns,i,(aM (Ne.symm n)).trans hp,?_,r⟩
 refine V8 hS (Sb.upd (p:=d)) fun u e z=>?_
 rw[hd] at e
 cases e
 rcases z with z|⟨_,z⟩ <;>cases z
theorem aE2 {K:PySem.W.Frag}{C:Addr}{a:Addr×Bool}{H1 H:Hp}{p l:Addr}{u u1:List Int}{o:HO}(R1:gQ K C a H1 p u1)(nl:H1 l=none)(h:gQ K C a H p u)(n:p≠l):gQ K C a (upd H l o) p u:=by
 obtain⟨dx,ns,i,hp,hS,r⟩:=h
 obtain⟨_,ns1,_,_,hS1,_⟩:=R1
 refine⟨dx,ns,i,(aM n).trans hp,?_,r⟩
 rcases hS with ⟨m,z⟩|z
 .have na:a.1≠l:=by
   rcases hS1 with ⟨_,z1|⟨_,z1⟩⟩|⟨m1,_⟩
   .exact aX z1 nl
   .exact aX z1 nl
   .rw[m] at m1
    cases m1
  rcases z with z|⟨o',z⟩
  .exact .inl ⟨m,.inl ((aM na).trans z)⟩
  .exact .inl ⟨m,.inr ⟨o',(aM na).trans z⟩⟩
 .exact .inr z
theorem YK: ∀i,i<12->((_root_.M.bW i).map (·.1)).Nodup/\"kind"∉(_root_.M.bW i).map (·.1)/\ ∀x∈_root_.M.bW i,sG x.2:=by
 intro i hi
 match i,hi with
 |0,_=>exact⟨by decide,by decide,by intro x hx;simp[_root_.M.bW] at hx;rcases hx with rfl|rfl|rfl|rfl <;>(unfold sG;decide)⟩
 |1,_=>exact⟨by decide,by decide,by intro x hx;simp[_root_.M.bW] at hx;rcases hx with rfl <;>(unfold sG;decide)⟩
 |2,_=>exact⟨by decide,by decide,by intro x hx;simp[_root_.M.bW] at hx;rcases hx with rfl|rfl|rfl|rfl|rfl <;>(unfold sG;decide)⟩
 |3,_=>exact⟨by decide,by decide,by intro x hx;simp[_root_.M.bW] at hx;rcases hx with rfl|rfl|rfl|rfl|rfl|rfl|rfl <;>(unfold sG;decide)⟩
 |4,_=>exact⟨by decide,by decide,by intro x hx;simp[_root_.M.bW] at hx;rcases hx with rfl <;>(unfold sG;decide)⟩
 |5,_=>exact⟨by decide,by decide,by intro x hx;simp[_root_.M.bW] at hx;rcases hx with rfl|rfl|rfl <;>(unfold sG;decide)⟩
 |6,_=>exact⟨by decide,by decide,by intro x hx;simp[_root_.M.bW] at hx;rcases hx with rfl|rfl|rfl|rfl|rfl|rfl|rfl|rfl|rfl <;>(unfold sG;decide)⟩
 |7,_=>exact⟨by decide,by decide,by intro x hx;simp[_root_.M.bW] at hx;rcases hx with rfl|rfl|rfl <;>(unfold sG;decide)⟩
 |8,_=>exact⟨by decide,by decide,by intro x hx;simp[_root_.M.bW] at hx;rcases hx with rfl <;>(unfold sG;decide)⟩
 |9,_=>exact⟨by decide,by decide,by intro x hx;simp[_root_.M.bW] at hx;rcases hx with rfl <;>(unfold sG;decide)⟩
 |10,_=>exact⟨by decide,by decide,by intro x hx;simp[_root_.M.bW] at hx;rcases hx with rfl|rfl|rfl|rfl|rfl|rfl|rfl|rfl|rfl <;>(unfold sG;decide)⟩
 |11,_=>exact⟨by decide,by decide,by intro x hx;simp[_root_.M.bW] at hx;rcases hx with rfl <;>(unfold sG;decide)⟩
theorem aHg {kvs:List (Key×V)}{k:Key}{v:V}(h:k∉kvs.map (·.1)):putK kvs k v=kvs++[(k,v)]:=by
 unfold putK
 rw[if_neg]
 intro z
 rw[List.any_eq_true] at z
 obtain⟨kv,h1,h2⟩:=z
 exact h (List.mem_map.mpr ⟨kv,h1,of_decide_eq_true h2⟩)
noncomputable def keyOf (f:String):Key:=Sum.inr (Str.ofString f)
theorem u6 {f g:String}(h:keyOf f=keyOf g):f=g:=by
 injection h with h
 exact aJg.mp h
theorem aB4 {sub:Option (List Int->Option (_root_.M.Raw×List Int))}{f form:String}{r:List (String×String)}{u:List Int}{x:_root_.M.FV}{v:List Int}(h:_root_.M.sW sub form u=some (x,v)):
  _root_.M.bU sub ((f,form)::r) u=(_root_.M.bU sub r v).map fun z=>(.cons f x z.1,z.2):=by
 rw[_root_.M.gF,h]
 rfl
theorem aAb: ∀(a b c:_root_.M.gP),(a.app b).app c=a.app (b.app c)
 | .nil,_,_=>rfl
 | .cons f x l,b,c=>by rw[_root_.M.gP.app,_root_.M.gP.app,_root_.M.gP.app,aAb l b c]
section
variable{P:Program}{w:World}{K:PySem.W.Frag}{mg:Str->Option Value}{base:Heap}(M:Md w K mg)
structure RtI (C:Addr)(a:Addr×Bool)(H H':Hp)(p d:Addr)(n k:Nat)(u0:List Int)(i:Nat)(kvs:List (Key×V))(fs:_root_.M.gP)(u:List Int):Prop where
 rd:gQ K C a H' p u
 sb:Sb p H H'
 dd:H' d=some (.dK ((keyOf "kind",.str (Str.ofString (_root_.M.kindName k)))::kvs))
 at_:bV (fun b=>H b=none/\b≠d) H' kvs fs
 ks:kvs.map (·.1)=((_root_.M.bW k).take i).map fun x=>keyOf x.1
 eq:_root_.M.bU (_root_.M.KY n) (_root_.M.bW k) u0=(_root_.M.bU (_root_.M.KY n) ((_root_.M.bW k).drop i) u).map fun z=>(fs.app z.1,z.2)
theorem aE3 {R:Addr->Prop}{H:Hp}{f:String}{v:V}{x:_root_.M.FV}(h:gZ R H v x){kvs:List (Key×V)}{fs:_root_.M.gP}(k:bV R H kvs fs):bV R H (kvs++[(keyOf f,v)]) (fs.app (.cons f x .nil)):=by
 match kvs,fs,k with
 |_,_,.nil=>exact .cons h .nil
 |_,_,.cons a t=>exact .cons a (aE3 h t)
theorem aN3 (n:Nat)(GF:bJ P w K mg base (CXE P w) (5+3*n) M.mG.f M.mG.fd rT (aVp (K:=K) M.bL.C M.bY n)):
  bJ P w K mg base (CXE P w) (6+3*n) M.gM.f M.gM.fd oR (pThing (K:=K) M.bL.C M.bY n):=by
 refine mU (M.gM.F.okE (k:=5+3*n) mX (fun vs H Q E h=>?_) (fun cdv A outer s H vs Q E hr h=>?_)) (by lia)
 .obtain⟨p,a,u,rfl,_⟩:=h
  rfl
 .obtain⟨p,a,u,rfl,hR,xw,k⟩:=h
  have hb:gA gH=[stm (gA gH) 0,stm (gA gH) 1,stm (gA gH) 2,stm (gA gH) 3,stm (gA gH) 4,stm (gA gH) 5]:=rfl
  obtain⟨s3,h3⟩: ∃s3,s3=stm (gA gH) 3:=⟨_,rfl⟩
  have hd:s3=_:=h3
  rw[<- h3] at hb
  rw[hb]
  refine⟨_,(aB (bF (i:=2) mX.nd rfl (Or.inl rfl) (lN (pv 0) M.bL.c M.cP.m (sU M) (hr.mono (by walk_at "o")) M.cP.b .nil aC))
   (aB (bR (U3 (aLf aCm KQ aQ (pv 2) (dF cU rfl M.sI boot_len (aA (pR (v:= .ref M.zP) rfl M.aC5 rfl) aD)))) (aG (iH iR rfl rfl rfl M.dG)) bC)
   (aB (bF (i:=3) mX.nd rfl (Or.inl rfl) (cJ Z8 (pR (v:= .ref M.zP) rfl M.aC5 rfl) (pv 2) (fun _ _=>rfl)))
   (aB (aE1 (i:=4) hd mX.nd rfl (Or.inl rfl) (mO aN (pv 3) aIk) rfl rfl (List.cons_ne_nil _ _) (by decide) rfl (by first|exact .inl rfl|exact .inr rfl))
   (aB (lM PassesOwn.«leaving» rfl (aCj (XS rfl M.YB (pv 3) (fun _ _=>rfl))) (M8 (n:=2) rfl (gW (cV (i:=5) mX.nd rfl (Or.inl rfl)) (gW (cV (i:=6) mX.nd rfl (Or.inl rfl)) yM))) (aG (aBz (bO hr) (pv 4) (pv 5) (aJ GF (hr.mono (by walk_at "o")) rfl M.mG.m M.mG.k M.mG.b .nil aC (aA (pv 0) (aA (pv 6) (aA (pv 1) aD)))) rfl)))
   (aG (aP (pv 4)))))))),?_⟩
  try dsimp only[aFc]
  rw[_root_.M.aOl] at xw k
  obtain⟨dx,i,hp⟩:=hR.ins
  walk_at "go"
  refine tk hR (fun e=>xw (by subst e;rfl)) fun x r hu H1 R1 s1=>?_
  subst hu
  walk_at "go"
  refine eN (fun c0=>?_) (fun c0=>?_)
  rotate_left
  .have c0: ¬0<=x:=fun z=>c0 (decide_eq_true z)
   refine bD9 ?_
   refine V9 rfl ?_
   exact xw (by rw[_root_.M.rdT,if_neg (fun z=>c0 z.1)]) H1 s1
  have c0:0<=x:=of_decide_eq_true c0
  walk_at "go"
  refine bBn (M.aQz.sq H1) ?_
  walk_at "go"
  refine eN (fun c1=>?_) (fun c1=>?_)
  .have c1: ¬x<12:=fun z=>by
    have:decide (x<12)=true:=decide_eq_true z
    have c1':(!decide (x<12))=true:=c1
    rw[this] at c1'
    cases c1'
   exact xw (by rw[_root_.M.rdT,if_neg (fun z=>c1 z.2)]) H1 s1
  have c1:x<12:=by
   have c1': ¬(!decide (x<12))=true:=c1
   simpa using c1'
  rw[_root_.M.rdT,if_pos ⟨c0,c1⟩] at xw k
  obtain⟨j,rfl⟩: ∃j:Nat,x=(j:Int):=⟨x.toNat,by lia⟩
  have hj:j<12:=by lia
  rw[show ((j:Int)).toNat=j by lia] at xw k
  walk_at "go"
  refine aQu (v:= .str (Str.ofString (_root_.M.kindName j))) (M.tb.knd.sq H1) (bH (j:=j) (by rw[List.getElem?_map,List.getElem?_range hj];rfl)) ?_
  walk_at "go"
  intro d nd
  walk_at "go"
  refine aHe [(keyOf "kind",.str (Str.ofString (_root_.M.kindName j)))] aH rfl (by show 1<=15;decide) ?_
  rw[aR5,gD]
  obtain⟨t,bs,tb,tp,pr⟩:=M.tb.frm j hj
  obtain⟨nf,nk,fo⟩:=YK j hj
  have ndH:H d=none:=by
   cases e:H d with
   |none=>rfl
   |some o=>
    have hdp:d≠p:=fun z=>by subst z;obtain⟨_,_,e2⟩:=R1.ins;rw[e2] at nd;cases nd
    rw[s1 d o e hdp] at nd
    cases nd
  have hdp:p≠d:=aX hp ndH
  walk_at "go"
  refine aDs ?_
  refine aJz ?_
  walk_at "go"
  refine⟨_,_,.ref t,rfl,tb,rfl,t,rfl,⟨_,tp.sq _⟩,?_⟩
  have R2:gQ K M.bL.C a (upd H1 d (.dK [(keyOf "kind",.str (Str.ofString (_root_.M.kindName j)))])) p r:=QL R1 nd
  refine aV4 (vs:=bs.map V.ref) (fun i σ H'=> ∃kvs fs u x5 x6,RtI (K:=K) M.bL.C a H H' p d n j r i kvs fs u/\σ=[some (.ref p),some (.int n),some (.int j),some (.str (Str.ofString (_root_.M.kindName j))),some (.ref d),x5,x6])
   ⟨[],.nil,r,none,none,⟨R2,s1.new nd _,aH,.nil,rfl,?_⟩,rfl⟩ (fun i σ H' _=>tp.sq H') ?_ ?_
  .show _=(_root_.M.bU (_root_.M.KY n) (_root_.M.bW j) r).map fun z=>(_root_.M.gP.app .nil z.1,z.2)
   cases _root_.M.bU (_root_.M.KY n) (_root_.M.bW j) r with
   |none=>rfl
   |some z=>rfl
  .rintro i v σ H2 hi ⟨kvs,fs,u,x5,x6,I2,rfl⟩
   rw[List.getElem?_map] at hi
   obtain⟨b,hb,rfl⟩:=Option.map_eq_some_iff.mp hi
   obtain⟨⟨f,form⟩,hf,tf⟩:=Paired.at_ pr hb
   obtain⟨e1,e2⟩:=iQ hf
   have hd':(_root_.M.bW j).drop i=(f,form)::(_root_.M.bW j).drop (i+1):=by
    have hl:=(List.getElem?_eq_some_iff.mp hf)
    rw[<- hl.2]
    exact List.drop_eq_getElem_cons hl.1
   refine aC9 (tf.sq H2) ?_
   walk_at "go"
   refine⟨p,a,u,form,rfl,I2.rd,fo _ (List.mem_of_getElem? hf),fun e=>?_,fun x rr e v H3 R3 s3 f3=>?_⟩
   .have hx:(_root_.M.bU (_root_.M.KY n) (_root_.M.bW j) r)=none:=by
     rw[I2.eq,hd',_root_.M.gF,e]
     rfl
    exact(xw (by rw[hx];rfl)).on I2.sb
   .have hd3:=s3 d _ I2.dd (Ne.symm hdp)
    walk_at "go"
    have nin:keyOf f∉((keyOf "kind",V.str (Str.ofString (_root_.M.kindName j)))::kvs).map (·.1):=by
     rw[List.map_cons,I2.ks,List.mem_cons]
     rintro(z|z)
     .exact nk (List.mem_map.mpr ⟨(f,form),List.mem_of_getElem? hf,u6 z⟩)
     .obtain⟨y,hy,ey⟩:=List.mem_map.mp z
      have ey:=u6 ey
      rw[e1,List.map_append,List.nodup_append] at nf
      exact nf.2.2 y.1 (List.mem_map.mpr ⟨y,hy,rfl⟩) f (by simp) ey
    refine⟨d,_,rfl,aIh.k (k:=keyOf f) hd3 ?_,?_⟩
    .have:(kvs.map (·.1)).length<=9:=by
      rw[I2.ks,List.length_map]
      rw[List.length_take]
      have:=aHf j hj
      lia
     rw[List.length_map] at this
     have:=big'
     rw[List.length_cons]
     lia
    .rw[aHg nin]
     have mv0: ∀b o,Fr H2 b->H3 b=some o->(H b=none/\b≠d)/\H3 b=some o:=by
      intro b o hb e
      have hb':H2 b=none:=hb
      refine⟨⟨?_,?_⟩,e⟩
      .cases eb:H b with
       |none=>rfl
       |some o'=>
        have hbp:b≠p:=fun z=>by subst z;obtain⟨_,_,e2⟩:=I2.rd.ins;rw[e2] at hb';cases hb'
        have:=I2.sb b o' eb hbp
        rw[hb'] at this
        cases this
      .intro z
       subst z
       rw[I2.dd] at hb'
       cases hb'
     have fd:gZ (fun b=>H b=none/\b≠d) H3 v x:=gZ.imp mv0 f3
     have old:bV (fun b=>H b=none/\b≠d) H3 kvs fs:=bV.imp (fun b o hb e=>⟨hb,s3 b o e (fun z=>by subst z;rw[hp] at hb;cases hb.1)⟩) I2.at_
     have mv: ∀b o,(H b=none/\b≠d)->H3 b=some o->(H b=none/\b≠d)/\upd H3 d (.dK (((keyOf "kind",.str (Str.ofString (_root_.M.kindName j)))::kvs)++[(keyOf f,v)])) b=some o:=fun b o hb e=>⟨hb,by rw[aM hb.2];exact e⟩
     refine⟨kvs++[(keyOf f,v)],fs.app (.cons f x .nil),rr,some _,some _,⟨aVr R3 (Ne.symm hdp) hd3,?_,aH,bV.imp mv (aE3 fd old),?_,?_⟩,rfl⟩
     .intro b o hb hbp
      rw[aM (aX hb ndH)]
      exact s3 b o (I2.sb b o hb hbp) hbp
     .rw[List.map_append,I2.ks,e2,List.map_append]
      rfl
     .rw[I2.eq,hd',aB4 e,Option.map_map]
      congr 1
      funext z
      show (fs.app (.cons f x z.1),z.2)=((fs.app (.cons f x .nil)).app z.1,z.2)
      rw[aAb]
      rfl
  .rintro σ H2 ⟨kvs,fs,u,x5,x6,I2,rfl⟩
   have hl:(bs.map V.ref).length=(_root_.M.bW j).length:=by rw[List.length_map];exact pr.length
   have e:=I2.eq
   rw[hl,List.drop_length] at e
   walk_at "go"
   refine k (.mk (_root_.M.kindName j) fs) u ?_ _ H2 I2.rd I2.sb (.mk ndH I2.dd (bV.imp (fun b o hb e=>⟨hb.1,e⟩) I2.at_))
   rw[e]
   simp only[_root_.M.iI,Option.map_some,_root_.M.aIs]
end
end Pr
end
section
namespace Pr
open PySem PySem.Spec PyProof.Rows L2 SbThing SbPack
section
variable{P:Program}{w:World}{K:PySem.W.Frag}{mg:Str->Option Value}{base:Heap}(M:Md w K mg)
structure RsI (C:Addr)(a:Addr×Bool)(H H':Hp)(p l:Addr)(n N:Nat)(u0:List Int)(vs:List V)(rs:_root_.M.fD)(u:List Int):Prop where
 rd:gQ K C a H' p u
 sb:Sb p H H'
 ll:H' l=some (.lst vs)
 at_:d7 (fun b=>H b=none/\b≠l) H' vs rs
 le:vs.length<=N
 len:vs.length+u.length<=u0.length
 eq:_root_.M.iW (_root_.M.dI n) N u0=(_root_.M.iW (_root_.M.dI n) (N-vs.length) u).map fun z=>(rs.app z.1,z.2)
theorem aT0 (rs r:_root_.M.fD)(x:_root_.M.Raw):(rs.snoc x).app r=rs.app (.cons x r):=_root_.M.aH4 rs x r
theorem aK0 {C p:Addr}{a:Addr×Bool}{H:Hp}{u:List Int}(h:gQ K C a H p u):u.length<=100000:=by
 obtain⟨_,ns,i,_,_,e,_,l⟩:=h
 rw[<- e,List.length_drop]
 lia
theorem aHh (n:Nat)(GT:bJ P w K mg base (CXE P w) (6+3*n) M.gM.f M.gM.fd oR (pThing (K:=K) M.bL.C M.bY n)):
  bJ P w K mg base (CXE P w) (7+3*n) M.dW.f M.dW.fd kO (pThings (K:=K) M.bL.C M.bY n):=by
 refine mU (M.dW.F.okE (k:=6+3*n) xU (fun vs H Q E h=>?_) (fun cdv A outer s H vs Q E hr h=>?_)) (by lia)
 .obtain⟨p,a,u,rfl,_⟩:=h
  rfl
 .obtain⟨p,a,u,rfl,hR,xw,k⟩:=h
  refine⟨_,(aB (bF (i:=2) xU.nd rfl (Or.inl rfl) (lN (pv 0) M.bL.c M.cP.m (sU M) (hr.mono (by walk_at "o")) M.cP.b .nil aC))
   (aB (bR (aW KQ (pv 2) aQ (bD _)) (aG (iH iR rfl rfl rfl M.dG)) bC)
   (aB (bF (i:=3) xU.nd rfl (Or.inl rfl) (cX aD))
   (aB (aLd PassesOwn.«leaving» (aW KQ (dF cU rfl M.sI boot_len (aA (pv 3) aD)) (pv 2) (bD _)) (aG (bQ (vY PySem.F.plainAttrs_list PySem.F.slot_list_append PySem.F.type_list_append DP (pv 3) (aA (aJ GT (hr.mono (by walk_at "o")) rfl M.gM.m M.gM.k M.gM.b .nil aC (aA (pv 0) (aA (pv 1) aD))) aD)))))
   (aG (aP (pv 3))))))),?_⟩
  try dsimp only[aFc]
  obtain⟨dx,i,hp⟩:=hR.ins
  walk_at "go"
  refine tk hR (fun e=>xw (by subst e;rfl)) fun x r hu H1 R1 s1=>?_
  subst hu
  walk_at "go"
  refine eN (fun c=>?_) (fun c=>?_)
  .have c:x<0:=of_decide_eq_true c
   exact xw (by rw[_root_.M.nA,if_pos c]) H1 s1
  have c: ¬x<0:=fun z=>c (decide_eq_true z)
  rw[_root_.M.nA,if_neg c] at xw k
  obtain⟨N,rfl⟩: ∃N:Nat,x=(N:Int):=⟨x.toNat,by lia⟩
  rw[show ((N:Int)).toNat=N by lia] at xw k
  walk_at "go"
  refine⟨Nat.zero_le _,fun l nl=>?_⟩
  have nlH:H l=none:=by
   cases e:H l with
   |none=>rfl
   |some o=>
    have hdp:l≠p:=fun z=>by subst z;obtain⟨_,_,e2⟩:=R1.ins;rw[e2] at nl;cases nl
    rw[s1 l o e hdp] at nl
    cases nl
  have hlp:p≠l:=aX hp nlH
  walk_at "go"
  refine aTz (fun σ H'=>σ=[some (.ref p),some (.int n),some (.int N),some (.ref l)]/\ ∃vs rs u,RsI (K:=K) M.bL.C a H H' p l n N r vs rs u) (fun σ H'=>match H' l with|some (.lst vs)=>N-vs.length|_=>0)
   ⟨rfl,[],.nil,r,QL R1 nl,s1.new nl _,aH,.nil,Nat.zero_le _,by simp,?_⟩ ?_ ?_
  .show _=(_root_.M.iW (_root_.M.dI n) N r).map fun z=>(_root_.M.fD.app .nil z.1,z.2)
   cases _root_.M.iW (_root_.M.dI n) N r with
   |none=>rfl
   |some z=>rfl
  .rintro σ H2 ⟨rfl,vs,rs,u,I2⟩
   have hs:=SqL.of (K:=K) I2.ll
   walk_at "go"
   refine eN (fun c=>?_) (fun c=>?_)
   .have c:vs.length<N:=by have:=of_decide_eq_true c;lia
    obtain⟨m,hm⟩: ∃m,N-vs.length=m+1:=⟨N-vs.length-1,by lia⟩
    have e0:=I2.eq
    rw[hm] at e0
    walk_at "go"
    refine⟨tyL I2.ll,?_⟩
    walk_at "go"
    refine⟨p,a,u,rfl,I2.rd,fun e=>?_,fun y rr e v H3 R3 s3 f3=>?_⟩
    .refine(xw ?_).on I2.sb
     rw[e0,_root_.M.aOq e]
     rfl
    .have hl3:=s3 l _ I2.ll (Ne.symm hlp)
     walk_at "go"
     have hb:=big'
     have h1:=aK0 hR
     have h2:=I2.len
     simp only[List.length_cons] at h1
     refine Q8 hl3 (by lia) ?_
     walk_at "go"
     have mv0: ∀b o,Fr H2 b->H3 b=some o->(H b=none/\b≠l)/\H3 b=some o:=by
      intro b o hb e
      have hb':H2 b=none:=hb
      refine⟨⟨?_,?_⟩,e⟩
      .cases eb:H b with
       |none=>rfl
       |some o'=>
        have hbp:b≠p:=fun z=>by subst z;obtain⟨_,_,e2⟩:=I2.rd.ins;rw[e2] at hb';cases hb'
        have:=I2.sb b o' eb hbp
        rw[hb'] at this
        cases this
      .intro z
       subst z
       rw[I2.ll] at hb'
       cases hb'
     have fd:eX (fun b=>H b=none/\b≠l) H3 v y:=eX.imp mv0 f3
     have old:d7 (fun b=>H b=none/\b≠l) H3 vs rs:=d7.imp (fun b o hb e=>⟨hb,s3 b o e (fun z=>by subst z;rw[hp] at hb;cases hb.1)⟩) I2.at_
     have mv: ∀b o,(H b=none/\b≠l)->H3 b=some o->(H b=none/\b≠l)/\upd H3 l (.lst (vs++[v])) b=some o:=fun b o hb e=>⟨hb,by rw[aM hb.2];exact e⟩
     have hrl:=_root_.M.aUr n e
     refine⟨⟨rfl,vs++[v],rs.snoc y,rr,⟨?_,?_,aH,d7.imp mv (d7.snoc fd old),?_,?_,?_⟩⟩,?_⟩
     .exact aE2 R1 nl R3 hlp
     .intro b o hb hbp
      rw[aM (aX hb nlH)]
      exact s3 b o (I2.sb b o hb hbp) hbp
     .rw[List.length_append,List.length_singleton]
      exact c
     .rw[List.length_append,List.length_singleton]
      lia
     .rw[e0,_root_.M.aOp e,Option.map_map,List.length_append,List.length_singleton,show N-(vs.length+1)=m by lia]
      congr 1
      funext z
      show (rs.app (.cons y z.1),z.2)=((rs.snoc y).app z.1,z.2)
      rw[aT0]
     .show (match upd H3 l (.lst (vs++[v])) l with|some (.lst vs)=>N-vs.length|_=>0)<(match H2 l with|some (.lst vs)=>N-vs.length|_=>0)
      rw[aH,I2.ll]
      show N-(vs++[v]).length<N-vs.length
      rw[List.length_append,List.length_singleton]
      lia
   .have c: ¬vs.length<N:=fun z=>c (decide_eq_true (by lia))
    have e0:=I2.eq
    have e1:=I2.le
    rw[show N-vs.length=0 by lia] at e0
    walk_at "go"
    refine k rs u ?_ _ H2 I2.rd I2.sb (.lst nlH I2.ll (d7.imp (fun b o hb e=>⟨hb.1,e⟩) I2.at_))
    rw[e0]
    simp only[_root_.M.iW,Option.map_some,_root_.M.aLy]
  .intro σ H Q Q' h hc
   obtain⟨v,e,p,ys,e1,hs,v2,e2,i,j,e3,e4,k,e5,q⟩:=hc
   exact⟨v,e,p,ys,e1,hs,v2,e2,i,j,e3,e4,k,e5,h _ _ q⟩
end
end Pr
end
section
namespace Pr
open PySem PySem.Spec PyProof.Rows L2 SbThing SbPack
theorem aPd {R:Addr->Prop}{H:Hp}{sub:Option (_root_.M.Raw->Prop)}: ∀{forms:List (String×String)}{kvs:List (Key×V)}{fs:_root_.M.gP}{m:Nat}{f form:String}{x:_root_.M.FV}{r:_root_.M.gP},bV R H kvs fs->_root_.M.wfF sub forms fs->(forms.map (·.1)).Nodup->forms[m]?=some (f,form)->fs.drop m= .cons f x r->Ex1_ fun v=>And2_ (S5 kvs (keyOf f)=some v) (gZ R H v x)
 |[],_,_,m,_,_,_,_,_,_,_,e,_=>by simp at e
 |(g,gf)::forms,kvs,fs,m,f,form,x,r,hF,hw,nd,e,hd=>by
  match fs,hw with
  | .cons g' y fs',hw=>
   obtain⟨rfl,hy,hw'⟩:=hw
   cases hF with
   |cons hv hF'=>
    cases m with
    |zero=>
     rw[List.getElem?_cons_zero] at e
     cases e
     rw[_root_.M.gP.drop] at hd
     cases hd
     exact⟨_,WM rfl,hv⟩
    |succ m=>
     rw[List.getElem?_cons_succ] at e
     rw[List.map_cons,List.nodup_cons] at nd
     have ne:g≠f:=fun z=>nd.1 (List.mem_map.mpr ⟨(f,form),List.mem_of_getElem? e,z.symm⟩)
     obtain⟨v,h1,h2⟩:=aPd hF' hw' nd.2 e hd
     exact⟨v,(DR (fun z=>ne (u6 z))).trans h1,h2⟩
theorem aVs {sub:Option (_root_.M.Raw->Prop)}{x:_root_.M.FV}(h:_root_.M.wfV sub "list" x):Ex2_ fun l g=>And3_ (x= .lst l) (sub=some g) (_root_.M.allR g l):=by
 cases x with
 |lst l=>obtain⟨_,g,e,a⟩:=h;exact⟨l,g,rfl,e,a⟩
 |thing r=>exact absurd h.1 (by decide)
 |sd o=>exact absurd (show "list"="side" from h) (by decide)
 |int i=>cases (show (_root_.M.nO "list").isSome=true from h)
theorem aT1 {sub:Option (_root_.M.Raw->Prop)}{form f:String}{x:_root_.M.FV}{r:_root_.M.gP}(h:_root_.M.wfV sub form x)(n: ¬form="list"):_root_.M.hlF (.cons f x r)=_root_.M.hlF r:=by
 cases x with
 |lst l=>exact absurd h.1 n
 |thing y=>rw[_root_.M.hlF];intro l e;cases e
 |sd o=>rw[_root_.M.hlF];intro l e;cases e
 |int i=>rw[_root_.M.hlF];intro l e;cases e
theorem aK1 {R:Addr->Prop}{H:Hp}{g:_root_.M.Raw->Prop}: ∀{vs:List V}{l:_root_.M.fD}{i:Nat}{v:V},d7 R H vs l->_root_.M.allR g l->vs[i]?=some v->Ex1_ fun r=>And3_ (l.drop i= .cons r (l.drop (i+1))) (eX R H v r) (g r)
 |_,_,i,v,.nil,_,e=>by simp at e
 |_,_,0,v,.cons (l:=l) h t,a,e=>by
  rw[List.getElem?_cons_zero] at e
  cases e
  exact⟨_,by cases l <;>rfl,h,a.1⟩
 |_,_,i+1,v,.cons h t,a,e=>by
  rw[List.getElem?_cons_succ] at e
  obtain⟨r,h1,h2,h3⟩:=aK1 (i:=i) t a.2 e
  exact⟨r,h1,h2,h3⟩
theorem aN4: ∀(l:_root_.M.fD),l.drop l.length= .nil
 | .nil=>rfl
 | .cons r l=>aN4 l
theorem aPe (l:_root_.M.fD):l.drop 0=l:=by cases l <;>rfl
theorem aPf (l:_root_.M.gP):l.drop 0=l:=by cases l <;>rfl
section
variable{P:Program}{w:World}{K:PySem.W.Frag}{mg:Str->Option Value}{base:Heap}(M:Md w K mg)
noncomputable def bBo (n:Nat):Sp:=fun vs H Q _=>Ex2_ fun v r=>And4_ (vs=[v]) (eX T0 H v r) (_root_.M.wf n r) (Q (.bl (_root_.M.hl r)) H)
theorem aR6 (n:Nat)(GH:bJ P w K mg base (CXE P w) (1+n) M.dD.f M.dD.fd jT (aVq bBo n)):
  bJ P w K mg base (CXE P w) (2+n) M.dD.f M.dD.fd jT (bBo n):=by
 refine mU (M.dD.F.okE (k:=1+n) oU (fun vs H Q E h=>?_) (fun cdv A outer s H vs Q E hr h=>?_)) (by lia)
 .obtain⟨v,r,rfl,_⟩:=h
  rfl
 .obtain⟨v,r,rfl,hA,hw,k⟩:=h
  rw[_root_.M.WW] at hw
  obtain⟨i,hi,hk,hF⟩:=hw
  refine⟨_,(aB (lM PassesOwn.«leaving» rfl (aCj (XS rfl M.YB (aZ (bO hr) (pv 0) aN (fun _ _=>rfl)) (fun _ _=>rfl))) (M8 (n:=2) rfl (gW (cV (i:=1) oU.nd rfl (Or.inl rfl)) (gW (cV (i:=2) oU.nd rfl (Or.inl rfl)) yM))) (aG (bR (aW cT (pv 2) aN (bD _)) (aG (lM PassesOwn.«leaving» rfl (nM (aZ (bO hr) (pv 0) (pv 1) (fun _ _=>rfl))) (cV (i:=3) oU.nd rfl (Or.inl rfl)) (aG (bR (PW.pt (aCf (aW cT (aZ (bO hr) (pv 3) aN (fun _ _=>rfl)) aN (bD _)) (U0 (nZ (aJ GH (hr.mono (by walk_at "o")) rfl M.dD.m M.dD.k M.dD.b .nil aC (aA (pv 3) aD)))))) (aG (aP aZ0)) bC)))) bC)))
   (aG (aP aZ0))),?_⟩
  try dsimp only[aFc]
  cases hA with
  | @mk a kvs kd fs _ ha hfs=>
   rw[show (_root_.M.Raw.mk kd fs).kind=kd from rfl] at hk
   subst hk
   rw[show (_root_.M.Raw.mk (_root_.M.kindName i) fs).fs=fs from rfl] at hF
   obtain⟨t,bs,tb,tp,pr⟩:=M.tb.frm i hi
   obtain⟨nf,nk,fo⟩:=YK i hi
   rw[show _root_.M.hl (.mk (_root_.M.kindName i) fs)=_root_.M.hlF fs from by rw[_root_.M.hl]] at k
   walk_at "go"
   refine aDs ?_
   refine aJz ?_
   walk_at "go"
   refine⟨_,_,.ref t,rfl,tb,rfl,t,rfl,⟨_,tp.sq _⟩,?_⟩
   refine aV4 (vs:=bs.map V.ref) (fun m σ H'=>H'=H/\_root_.M.hlF fs=_root_.M.hlF (fs.drop m)/\ ∃x1 x2 x3,σ=[some (.ref a),x1,x2,x3]) ⟨rfl,by rw[aPf],none,none,none,rfl⟩ (fun i σ H' _=>tp.sq H') ?_ ?_
   .rintro m v σ H2 hm ⟨rfl,he,x1,x2,x3,rfl⟩
    rw[List.getElem?_map] at hm
    obtain⟨b,hb,rfl⟩:=Option.map_eq_some_iff.mp hm
    obtain⟨⟨f,form⟩,hf,tf⟩:=Paired.at_ pr hb
    obtain⟨x,hx,hv⟩:=_root_.M.aOm hF hf
    obtain⟨u,hu,hfv⟩:=aPd hfs hF nf hf hx
    have hu':S5 ((Sum.inr (Str.ofString "kind"),V.str (Str.ofString (_root_.M.kindName i)))::kvs) (Sum.inr (Str.ofString f))=some u:=
     (DR (fun z=>nk (List.mem_map.mpr ⟨(f,form),List.mem_of_getElem? hf,(u6 z).symm⟩))).trans hu
    refine aC9 (tf.sq H2) ?_
    walk_at "go"
    refine eN (fun c=>?_) (fun c=>?_)
    .have c:form="list":=by rw[pW] at c;exact of_decide_eq_true c
     subst c
     obtain⟨l,g,rfl,hg,hal⟩:=aVs hv
     cases hfv with
     | @lst bl vs l _ hbl hrs=>
      walk_at "go"
      refine vR ?_
      walk_at "go"
      refine aJh ha hu' ?_
      refine⟨bl,rfl,⟨_,SqL.of hbl⟩,?_⟩
      have hlen:=hrs.len
      refine aSr (vs:=vs) (fun q σ H'=>H'=H2/\_root_.M.hlF fs=(_root_.M.hlR (l.drop q)||_root_.M.hlF (fs.drop (m+1)))/\ ∃x1 x2 x3,σ=[some (.ref a),x1,x2,x3]) ⟨rfl,?_,_,_,_,rfl⟩ (fun i σ H' p=>by rw[p.1];exact SqL.of hbl) ?_ ?_
      .rw[he,hx,aPe,_root_.M.hlF]
      .rintro q v σ H3 hq ⟨rfl,he2,y1,y2,y3,rfl⟩
       obtain⟨r,hr2,hrA,hgr⟩:=aK1 hrs hal hq
       rw[hr2,_root_.M.hlR] at he2
       have hrA2:=hrA
       cases hrA with
       | @mk a2 kvs2 kd2 fs2 _ ha2 hfs2=>
        walk_at "go"
        refine eN (fun c=>?_) (fun c=>?_)
        .have c:kd2="leaders":=by rw[show (V.str (Str.ofString "leaders"):V)=V.str (Str.ofString "leaders") from rfl,pW] at c;exact of_decide_eq_true c
         walk_at "go"
         have e3:_root_.M.hlF fs=true:=by
          rw[he2,show ((_root_.M.Raw.mk kd2 fs2).kind=="leaders")=true from beq_iff_eq.mpr c]
          rfl
         rw[e3] at k
         exact k
        .have c: ¬kd2="leaders":=fun z=>c (by rw[pW];exact decide_eq_true z)
         rw[show ((_root_.M.Raw.mk kd2 fs2).kind=="leaders")=false from beq_eq_false_iff_ne.mpr c,Bool.false_or] at he2
         walk_at "go"
         cases n with
         |zero=>cases hg
         |succ n'=>
          cases hg
          refine⟨_,_,rfl,hrA2,hgr,?_⟩
          walk_at "go"
          refine eN (fun c=>?_) (fun c=>?_)
          .walk_at "go"
           rw[c,Bool.true_or,Bool.true_or] at he2
           rw[he2] at k
           exact k
          .rw[Bool.eq_false_iff.mpr c,Bool.false_or] at he2
           walk_at "go"
           exact⟨rfl,he2,_,_,_,rfl⟩
      .rintro σ H3 ⟨rfl,he2,y1,y2,y3,rfl⟩
       rw[hlen,aN4,_root_.M.hlR,Bool.false_or] at he2
       exact⟨rfl,he2,_,_,_,rfl⟩
    .have c: ¬form="list":=fun z=>c (by rw[pW];exact decide_eq_true z)
     walk_at "go"
     refine⟨rfl,?_,_,_,_,rfl⟩
     rw[he,hx,aT1 hv c]
   .rintro σ H2 ⟨rfl,he,x1,x2,x3,rfl⟩
    have hl:(bs.map V.ref).length=(_root_.M.bW i).length:=by rw[List.length_map];exact pr.length
    rw[hl,_root_.M.aIt hF,_root_.M.hlF] at he
    rw[he] at k
    walk_at "go"
    exact k
theorem aZq: ∀n:Nat,bJ P w K mg base (CXE P w) (2+n) M.dD.f M.dD.fd jT (bBo n)
 |0=>aR6 M 0 qQ
 |n+1=>aR6 M (n+1) (mU (aZq n) (by lia))
end
end Pr
end
section
namespace Pr
open PySem PySem.Spec PyProof.Rows L2 SbThing SbPack
section
variable{P:Program}{w:World}{K:PySem.W.Frag}{mg:Str->Option Value}{base:Heap}(M:Md w K mg)
theorem eX.t0 {R:Addr->Prop}{H:Hp}{v:V}{r:_root_.M.Raw}(h:eX R H v r):eX T0 H v r:=eX.imp (fun b o _ e=>⟨trivial,e⟩) h
theorem aVt (n:Nat)(GT:bJ P w K mg base (CXE P w) (6+3*n) M.gM.f M.gM.fd oR (pThing (K:=K) M.bL.C M.bY n)):
  bJ P w K mg base (CXE P w) (7+3*n) M.fM.f M.fM.fd jR (bBm (K:=K) M.bL.C M.bY n):=by
 refine mU (M.fM.F.okE (k:=6+3*n) FT (fun vs H Q E h=>?_) (fun cdv A outer s H vs Q E hr h=>?_)) (by lia)
 .obtain⟨p,a,u,rfl,_⟩:=h
  rfl
 .obtain⟨p,a,u,rfl,hR,xw,k⟩:=h
  refine⟨_,(aB (bF (i:=2) FT.nd rfl (Or.inl rfl) (aJ GT (hr.mono (by walk_at "o")) rfl M.gM.m M.gM.k M.gM.b .nil aC (aA (pv 0) (aA (pv 1) aD))))
   (aB (bR (PW.pt (aTp (aW aQ7 (aZ (bO hr) (pv 2) aN (fun _ _=>rfl)) aN (bD _)) (aQ2 (aW aQ7 (aZ (bO hr) (pv 2) aN (fun _ _=>rfl)) aN (bD _))))) (aG (iH iR rfl rfl rfl M.dG)) bC)
   (aB (bR (nZ (aJ (aZq M n) (hr.mono (by walk_at "o")) rfl M.dD.m M.dD.k M.dD.b .nil aC (aA (pv 2) aD))) (aG (iH iR rfl rfl rfl M.dG)) bC)
   (aG (aP (pv 2)))))),?_⟩
  try dsimp only[aFc]
  walk_at "go"
  refine⟨p,a,u,rfl,hR,fun e=>xw (by unfold _root_.M.v7;rw[e]),fun x r e v H1 R1 s1 f1=>?_⟩
  have hw:=_root_.M.bD3 e
  have f1':=f1
  cases f1' with
  | @mk d kvs kd fs _ hd hfs=>
   have nope:(kd≠"rule"/\kd≠"box")\/_root_.M.hl (.mk kd fs)=true->XW M.bY p H E:=fun z=>xw (by unfold _root_.M.v7;rw[e];exact if_pos z)
   have fin:(¬((kd≠"rule"/\kd≠"box")\/_root_.M.hl (.mk kd fs)=true))->Q (.ref d) H1:=fun z=>k _ r (by unfold _root_.M.v7;rw[e];exact if_neg z) _ H1 R1 s1 f1
   walk_at "go"
   refine eN (fun c=>?_) (fun c=>?_)
   .have c: ¬kd="rule":=fun z=>by
     subst z
     exact absurd c (by decide +kernel)
    walk_at "go"
    refine eN (fun c2=>?_) (fun c2=>?_)
    .have c2: ¬kd="box":=fun z=>by
      subst z
      exact absurd c2 (by decide +kernel)
     exact nope (.inl ⟨c,c2⟩) H1 s1
    .have c2:kd="box":=by
      rcases Decidable.em (kd="box") with z|z
      .exact z
      .exact absurd (by show (!decide (V.str (Str.ofString kd)=V.str (Str.ofString "box")))=true;rw[pW,decide_eq_false z];rfl) c2
     walk_at "go"
     refine⟨_,_,rfl,eX.t0 f1,hw,?_⟩
     walk_at "go"
     refine eN (fun c3=>?_) (fun c3=>?_)
     .exact nope (.inr c3) H1 s1
     .walk_at "go"
      exact fin (fun y=>y.elim (fun y=>y.2 c2) c3)
   .have c:kd="rule":=by
     rcases Decidable.em (kd="rule") with z|z
     .exact z
     .exact absurd (by show (!decide (V.str (Str.ofString kd)=V.str (Str.ofString "rule")))=true;rw[pW,decide_eq_false z];rfl) c
    walk_at "go"
    refine⟨_,_,rfl,eX.t0 f1,hw,?_⟩
    walk_at "go"
    refine eN (fun c3=>?_) (fun c3=>?_)
    .exact nope (.inr c3) H1 s1
    .walk_at "go"
     exact fin (fun y=>y.elim (fun y=>y.1 c) c3)
theorem aE4: ∀n:Nat,bJ P w K mg base (CXE P w) (7+3*n) M.dW.f M.dW.fd kO (pThings (K:=K) M.bL.C M.bY n)/\bJ P w K mg base (CXE P w) (7+3*n) M.fM.f M.fM.fd jR (bBm (K:=K) M.bL.C M.bY n)
 |0=>let t:=aN3 M 0 (aN2 M 0 qQ qQ);⟨aHh M 0 t,aVt M 0 t⟩
 |n+1=>let t:=aN3 M (n+1) (aN2 M (n+1) (mU (aE4 n).1 (by lia)) (mU (aE4 n).2 (by lia)));⟨aHh M (n+1) t,aVt M (n+1) t⟩
theorem aBp:bJ P w K mg base (CXE P w) 31 M.dW.f M.dW.fd kO (pThings (K:=K) M.bL.C M.bY 8):=(aE4 M 8).1
theorem aPg {ns r:List Int}{x:_root_.M.fD}(e:_root_.M.nA (_root_.M.dI 8) ns=some (x,r))(c: ¬r=[]):_root_.M.v9 ns=none:=by
 unfold _root_.M.v9
 rw[e]
 cases r with
 |nil=>exact absurd rfl c
 |cons y r=>rfl
theorem aPh {ns:List Int}{x:_root_.M.fD}(e:_root_.M.nA (_root_.M.dI 8) ns=some (x,[])):_root_.M.v9 ns=some x:=by
 unfold _root_.M.v9
 rw[e]
theorem aVu {ns:List Int}(e:_root_.M.nA (_root_.M.dI 8) ns=none):_root_.M.v9 ns=none:=by
 unfold _root_.M.v9
 rw[e]
theorem aVv {C:Addr}{a:Addr×Bool}{ns:List Int}{H:Hp}{Q:Addr->Hp->Prop}{E:XK}(hS:SqM K H a (ns.map V.int))(hl:ns.length<=100000)(k: ∀p H',H p=none->Same H H'->gQ K C a H' p ns->Q p H'): ∀x dx,H x=none->H dx=none->dx≠x->aJf K C (.ref x::([.ref a.1]++[])) (upd (upd H dx (.own x)) x (.ins C dx [])) (fun v H2=>v= .non/\Q x H2) E:=by
 intro x dx nx nd ne
 have s0:Same H (upd (upd H dx (.own x)) x (.ins C dx [])):=fun b o e=>by
  rw[aM (aX e nx),aM (aX e nd)]
  exact e
 refine⟨x,dx,a,ns,rfl,aH,hS.same s0,hl,fun H' R sb=>⟨rfl,k x H' nx (fun b o e=>sb b o (s0 b o e) (aX e nx)) R⟩⟩
theorem aCa {p:Addr}{H H1 H2:Hp}(s:Same H H1)(b:Sb p H1 H2)(n:H p=none):Same H H2:=fun c o e=>b c o (s c o e) (aX e n)
noncomputable def bDy (W:Addr):Sp:=fun vs H Q E=>Ex2_ fun(a:Addr×Bool)(ns:List Int)=>And5_ (vs=[.ref a.1]) (SqM K H a (ns.map V.int)) (ns.length<=100000) ((_root_.M.v9 ns=none-> ∀H',Same H H'->E (.ref W) none H')) (∀l,_root_.M.v9 ns=some l-> ∀(v:V)(H':Hp),Same H H'->gZ (Fr H) H' v (.lst l)->Q v H')
theorem YL:bJ P w K mg base (CXE P w) 32 M.n8.f M.n8.fd z8 (bDy (K:=K) M.bY):=by
 refine M.n8.F.okE JL (fun vs H Q E h=>?_) (fun cdv A outer s H vs Q E hr h=>?_)
 .obtain⟨a,ns,rfl,_⟩:=h
  rfl
 .obtain⟨a,ns,rfl,hS,hl,xw,k⟩:=h
  refine⟨_,(aB (bF (i:=1) JL.nd rfl (Or.inl rfl) (dX M.jA.ma (yF M) (hr.mono (by walk_at "o")) rfl M.bL.m M.jA.b .nil aC (aA (pv 0) aD)))
   (aB (bF (i:=2) JL.nd rfl (Or.inl rfl) (aJ (aBp M) (hr.mono (by walk_at "o")) rfl M.dW.m M.dW.k M.dW.b .nil aC (aA (pv 1) (aA (dR rfl M.aH9) aD))))
   (aB (bR (U3 (nZ (lN (pv 1) M.bL.c M.cG.m (vU M) (hr.mono (by walk_at "o")) M.cG.b .nil aC))) (aG (iH iR rfl rfl rfl M.dG)) bC)
   (aG (aP (pv 2)))))),?_⟩
  try dsimp only[aFc]
  walk_at "go"
  refine aVv hS hl fun p H1 np s1 R1=>?_
  walk_at "go"
  refine⟨p,a,ns,rfl,R1,fun e=>fun H' sb=>xw (aVu e) H' (aCa s1 sb np),fun x r e v H2 R2 sb f2=>?_⟩
  have s2:=aCa s1 sb np
  obtain⟨dx,i,hp⟩:=R2.ins
  walk_at "go"
  refine⟨p,a,r,rfl,R2,?_⟩
  walk_at "go"
  refine eN (fun c=>?_) (fun c=>?_)
  .have c: ¬r=[]:=by simpa using c
   exact xw (aPg e c) H2 s2
  .have c:r=[]:=by simpa using c
   subst c
   walk_at "go"
   refine k x (aPh e) v H2 s2 ?_
   refine gZ.imp (fun b o hb e=>⟨?_,e⟩) f2
   have hb':H1 b=none:=hb
   exact Same.free s1 hb'
end
end Pr
end
section
namespace Pr
open PySem PySem.Spec PyProof.Rows L2 SbThing SbPack
section
variable{P:Program}{w:World}{K:PySem.W.Frag}{mg:Str->Option Value}{base:Heap}(M:Md w K mg)
theorem aHi {H0 H:Hp}{p:Addr}{o:HO}(s:Same H0 H)(n:H0 p=none):Same H0 (upd H p o):=fun b u e=>by
 rw[aM (aX e n)]
 exact s b u e
theorem eX.mono {H H':Hp}{v:V}{r:_root_.M.Raw}(h:eX T0 H v r)(s:Same H H'):eX T0 H' v r:=eX.imp (aC6 s) h
theorem gZ.mono {H H':Hp}{v:V}{r:_root_.M.FV}(h:gZ T0 H v r)(s:Same H H'):gZ T0 H' v r:=gZ.imp (aC6 s) h
noncomputable def aR7 (n:Nat):Sp:=fun vs H Q _=>Ex2_ fun v r=>And5_ (vs=[v]) (eX T0 H v r) (_root_.M.wf n r) ((_root_.M.tl r).length<=1000000) (∀v' H',Same H H'->NAt H' v' (_root_.M.tl r)->Q v' H')
noncomputable def aK2 (n:Nat):Sp:=fun vs H Q _=>Ex2_ fun v l=>And5_ (vs=[v]) (gZ T0 H v (.lst l)) (_root_.M.allR (_root_.M.wf n) l) ((_root_.M.pG l).length<=1000000) (∀v' H',Same H H'->NAt H' v' (_root_.M.pG l)->Q v' H')
noncomputable def aVw (n:Nat):Sp:=fun vs H Q _=>Ex3_ fun v x form=>And5_ (vs=[v,.str (Str.ofString form)]) (gZ T0 H v x) (_root_.M.wfV (_root_.M.bD2 n) form x) ((_root_.M.tlV x).length<=1000000) (∀v' H',Same H H'->NAt H' v' (_root_.M.tlV x)->Q v' H')
theorem aE5 (n:Nat)(GL:bJ P w K mg base (CXE P w) (1+3*n) M.eU.f M.eU.fd o8 (aVq aK2 n))(GT:bJ P w K mg base (CXE P w) (1+3*n) M.fB.f M.fB.fd m8 (aVq aR7 n)):
  bJ P w K mg base (CXE P w) (2+3*n) M.mH.f M.mH.fd rY (aVw n):=by
 refine mU (M.mH.F.okE (k:=1+3*n) aFx (fun vs H Q E h=>?_) (fun cdv A outer s H vs Q E hr h=>?_)) (by lia)
 .obtain⟨v,x,form,rfl,_⟩:=h
  rfl
 .obtain⟨v,x,form,rfl,hA,hw,hl,k⟩:=h
  refine⟨_,(aB (bR (aW cT (pv 1) aN (bD _)) (aG (aP (aJ GL (hr.mono (by walk_at "o")) rfl M.eU.m M.eU.k M.eU.b .nil aC (aA (pv 0) aD)))) bC)
   (aB (bR (aW cT (pv 1) aN (bD _)) (aG (aP (aJ GT (hr.mono (by walk_at "o")) rfl M.fB.m M.fB.k M.fB.b .nil aC (aA (pv 0) aD)))) bC)
   (aB (bR (aW cT (pv 1) aN (bD _)) (aG (aP (lK (aW U5 (pv 0) qW (bD _)) (cX (aA aQ aD)) (cX (aA aQ (aA (pv 0) aD)))))) bC)
   (aG (aP (cX (aA (pv 0) aD))))))),?_⟩
  try dsimp only[aFc]
  cases x with
  |lst l=>
   obtain⟨rfl,g,hg,ha⟩:=hw
   cases n with
   |zero=>cases hg
   |succ m=>
    cases hg
    walk_at "go"
    exact⟨v,l,rfl,hA,ha,hl,k⟩
  |thing r=>
   obtain⟨rfl,g,hg,ha⟩:=hw
   cases n with
   |zero=>cases hg
   |succ m=>
    cases hg
    cases hA with
    |thing hA=>
     walk_at "go"
     exact⟨v,r,rfl,hA,ha,hl,k⟩
  |sd o=>
   have hw:form="side":=hw
   subst hw
   have ev:=hA.sdI
   subst ev
   cases o with
   |none=>
    walk_at "go"
    refine⟨rfl,?_⟩
    walk_at "go"
    exact⟨by show 1<=sizeLine;decide,fun q nq=>k _ _ (aU nq _) ⟨q,rfl,aH⟩⟩
   |some i=>
    walk_at "go"
    refine⟨rfl,?_⟩
    walk_at "go"
    exact⟨by show 2<=sizeLine;decide,fun q nq=>k _ _ (aU nq _) ⟨q,rfl,aH⟩⟩
  |int i=>
   have hn:(_root_.M.nO form).isSome=true:=hw
   have h1: ¬form="list":=fun e=>by subst e;cases hn
   have h2: ¬form="thing":=fun e=>by subst e;cases hn
   have h3: ¬form="side":=fun e=>by subst e;cases hn
   have ev:=hA.bDt
   subst ev
   walk_at "go"
   refine nJ ((pW _ _).trans (decide_eq_false h1)) ?_
   walk_at "go"
   refine nJ ((pW _ _).trans (decide_eq_false h2)) ?_
   walk_at "go"
   refine nJ ((pW _ _).trans (decide_eq_false h3)) ?_
   walk_at "go"
   exact⟨by show 1<=sizeLine;decide,fun q nq=>k _ _ (aU nq _) ⟨q,rfl,aH⟩⟩
noncomputable def YM:Nat->_root_.M.gP->List Int
 |0,_=>[]
 |_+1,.nil=>[]
 |i+1,.cons _ x r=>_root_.M.tlV x++YM i r
theorem aHj: ∀{i:Nat}{fs:_root_.M.gP}{f:String}{x:_root_.M.FV}{r:_root_.M.gP},fs.drop i= .cons f x r->YM (i+1) fs=YM i fs++_root_.M.tlV x
 |0,.nil,_,_,_,e=>by cases e
 |0,.cons _ y r',_,_,_,e=>by
  rw[_root_.M.gP.drop] at e
  cases e
  show _root_.M.tlV y++YM 0 r'=[]++_root_.M.tlV y
  rw[YM,List.append_nil,List.nil_append]
 |i+1,.nil,_,_,_,e=>by cases e
 |i+1,.cons _ y r',f,x,r,e=>by
  have h:=aHj (i:=i) (fs:=r') e
  show _root_.M.tlV y++YM (i+1) r'=(_root_.M.tlV y++YM i r')++_
  rw[h,List.append_assoc]
theorem aR8: ∀(i:Nat)(fs:_root_.M.gP),(YM i fs).length<=(_root_.M.tlF fs).length
 |0,_=>Nat.zero_le _
 |_+1,.nil=>Nat.zero_le _
 |i+1,.cons _ x r=>by
  rw[YM,_root_.M.tlF,List.length_append,List.length_append]
  have:=aR8 i r
  lia
theorem aN5: ∀{i:Nat}{fs:_root_.M.gP},fs.drop i= .nil->YM i fs=_root_.M.tlF fs
 |0,.nil,_=>by rw[YM,_root_.M.tlF]
 |0,.cons _ _ _,e=>by cases e
 |i+1,.nil,_=>by rw[YM,_root_.M.tlF]
 |i+1,.cons _ x r,e=>by rw[YM,_root_.M.tlF,aN5 (i:=i) (fs:=r) e]
theorem aE6: ∀i,i<12->((List.range 12).find? fun j=>_root_.M.kindName j==_root_.M.kindName i)=some i:=by decide
theorem aVx: ∀m,m<12-> ∀i,i<12->_root_.M.kindName m=_root_.M.kindName i->m=i:=by decide
theorem aVy {H:Hp}{Q:VK}{a:Addr}{ys:List V}{y z:V}{j:Nat}(hs:SqT K H a ys)(fy:uY y=true)(fys:ys.all uY=true)(hz:ys[j]?=some z)(hzy:eqV z y=true)(hno: ∀(m:Nat)(z':V),m<j->ys[m]?=some z'->eqV z' y=false)(q:Q (.int (j:Nat)) H):aQt K (.ref a) [y] H Q:=⟨a,ys,y,j,z,rfl,rfl,hs,fy,fys,hz,hzy,hno,q⟩
theorem aR9 (a b:String):eqV (.str (Str.ofString a)) (.str (Str.ofString b))=decide (a=b):=by
 show (Str.ofString a==Str.ofString b)=_
 rw[Bool.beq_eq_decide_eq]
 exact decide_eq_decide.mpr aJg
theorem aRa {l b:Addr}{H:Hp}{xs ys:List Int}{Q:VK}(h:H l=some (.lst (xs.map V.int)))(hb:H b=some (.lst (ys.map V.int)))(hl:xs.length+ys.length<=10000000)(q:Q .non (upd H l (.lst ((xs++ys).map V.int)))):RB (.ref l) [.ref b] H Q:=by
 refine Y6 h hb ?_ ?_
 .rw[List.length_map,List.length_map]
  exact Nat.le_trans hl big'
 .rw[<- List.map_append]
  exact q
theorem aHk (n:Nat)(GF:bJ P w K mg base (CXE P w) (2+3*n) M.mH.f M.mH.fd rY (aVw n)):
  bJ P w K mg base (CXE P w) (3+3*n) M.fB.f M.fB.fd m8 (aR7 n):=by
 refine mU (M.fB.F.okE (k:=2+3*n) pK (fun vs H Q E h=>?_) (fun cdv A outer s H vs Q E hr h=>?_)) (by lia)
 .obtain⟨v,r,rfl,_⟩:=h
  rfl
 .obtain⟨v,r,rfl,hA,hw,hlen,k⟩:=h
  rw[_root_.M.WW] at hw
  obtain⟨i,hi,hk,hF⟩:=hw
  refine⟨_,(aB (bF (i:=1) pK.nd rfl (Or.inl rfl) (aZ (bO hr) (pv 0) aN (fun _ _=>rfl)))
   (aB (bF (i:=2) pK.nd rfl (Or.inl rfl) (cX (aA (vY PySem.F.plainAttrs_tuple PySem.F.slot_tuple_index PySem.F.type_tuple_index aSn (pR (v:= .ref M.zP) rfl M.aC5 rfl) (aA (pv 1) aD)) aD)))
   (aB (lM PassesOwn.«leaving» rfl (aCj (XS rfl M.YB (pv 1) (fun _ _=>rfl))) (M8 (n:=2) rfl (gW (cV (i:=3) pK.nd rfl (Or.inl rfl)) (gW (cV (i:=4) pK.nd rfl (Or.inl rfl)) yM))) (aG (bQ (vY PySem.F.plainAttrs_list PySem.F.slot_list_extend PySem.F.type_list_extend mV (pv 2) (aA (aJ GF (hr.mono (by walk_at "o")) rfl M.mH.m M.mH.k M.mH.b .nil aC (aA (aZ (bO hr) (pv 0) (pv 3) (fun _ _=>rfl)) (aA (pv 4) aD))) aD)))))
   (aG (aP (pv 2)))))),?_⟩
  try dsimp only[aFc]
  cases hA with
  | @mk a kvs kd fs _ ha hfs=>
   rw[show (_root_.M.Raw.mk kd fs).kind=kd from rfl] at hk
   subst hk
   rw[show (_root_.M.Raw.mk (_root_.M.kindName i) fs).fs=fs from rfl] at hF
   obtain⟨t,bs,tb,tp,pr⟩:=M.tb.frm i hi
   obtain⟨nf,nk,fo⟩:=YK i hi
   have etl:_root_.M.tl (.mk (_root_.M.kindName i) fs)=(i:Int)::_root_.M.tlF fs:=by
    rw[_root_.M.tl,aE6 i hi]
    rfl
   rw[etl] at k hlen
   walk_at "go"
   refine⟨.inr (.inl ⟨rfl,M.aR0⟩),?_⟩
   walk_at "go"
   refine aVy (j:=i) (z:= .str (Str.ofString (_root_.M.kindName i))) (M.tb.knd.sq H) rfl rfl (by rw[List.getElem?_map,List.getElem?_range hi];rfl) (by rw[aR9];exact decide_eq_true rfl) (fun m z' hm hz=>?_) ?_
   .rw[List.getElem?_map,List.getElem?_range (by lia)] at hz
    cases hz
    rw[aR9]
    exact decide_eq_false (fun z=>absurd (aVx m (by lia) i hi z) (by lia))
   walk_at "go"
   refine⟨by show 1<=sizeLine;decide,fun l nl=>?_⟩
   have s1:=aU nl (.lst [.int (i:Int)])
   walk_at "go"
   refine aDs ?_
   refine aJz ?_
   walk_at "go"
   refine⟨_,_,.ref t,rfl,tb,rfl,t,rfl,⟨_,tp.sq _⟩,?_⟩
   refine aV4 (vs:=bs.map V.ref) (fun m σ H'=>Same H H'/\H' l=some (.lst (((i:Int)::YM m fs).map V.int))/\ ∃x1 x2,σ=[some (.ref a),some (.str (Str.ofString (_root_.M.kindName i))),some (.ref l),x1,x2]) ⟨s1,aH,none,none,rfl⟩ (fun i σ H' _=>tp.sq H') ?_ ?_
   .rintro m v σ H2 hm ⟨s2,hl2,x1,x2,rfl⟩
    rw[List.getElem?_map] at hm
    obtain⟨b,hb,rfl⟩:=Option.map_eq_some_iff.mp hm
    obtain⟨⟨f,form⟩,hf,tf⟩:=Paired.at_ pr hb
    obtain⟨x,hx,hv⟩:=_root_.M.aOm hF hf
    obtain⟨u,hu,hfv⟩:=aPd hfs hF nf hf hx
    have hu':S5 ((Sum.inr (Str.ofString "kind"),V.str (Str.ofString (_root_.M.kindName i)))::kvs) (Sum.inr (Str.ofString f))=some u:=
     (DR (fun z=>nk (List.mem_map.mpr ⟨(f,form),List.mem_of_getElem? hf,(u6 z).symm⟩))).trans hu
    have hts:=aHj hx
    have htl:=aR8 (m+1) fs
    rw[hts,List.length_append] at htl
    rw[List.length_cons] at hlen
    refine aC9 (tf.sq H2) ?_
    walk_at "go"
    refine⟨tyL hl2,?_⟩
    walk_at "go"
    refine aJh (s2 _ _ ha) hu' ?_
    walk_at "go"
    refine⟨u,x,form,rfl,hfv.mono s2,hv,by lia,fun v' H3 s3 hN=>?_⟩
    obtain⟨c,rfl,hc⟩:=hN
    walk_at "go"
    refine aRa (s3 _ _ hl2) hc (by rw[List.length_cons];lia) ?_
    walk_at "go"
    refine⟨aHi (s2.trans s3) nl,?_,_,_,rfl⟩
    rw[aH,hts]
    rfl
   .rintro σ H2 ⟨s2,hl2,x1,x2,rfl⟩
    have hl:(bs.map V.ref).length=(_root_.M.bW i).length:=by rw[List.length_map];exact pr.length
    rw[hl,aN5 (_root_.M.aIt hF)] at hl2
    walk_at "go"
    exact k _ H2 s2 ⟨l,rfl,hl2⟩
noncomputable def GQ:Nat->_root_.M.fD->List Int
 |0,_=>[]
 |_+1,.nil=>[]
 |i+1,.cons x r=>_root_.M.tl x++GQ i r
theorem aE7: ∀{i:Nat}{l:_root_.M.fD}{x:_root_.M.Raw}{r:_root_.M.fD},l.drop i= .cons x r->GQ (i+1) l=GQ i l++_root_.M.tl x
 |0,.nil,_,_,e=>by cases e
 |0,.cons y r',x,r,e=>by
  rw[_root_.M.fD.drop] at e
  cases e
  show _root_.M.tl y++GQ 0 r'=[]++_root_.M.tl y
  rw[GQ,List.append_nil,List.nil_append]
 |i+1,.nil,_,_,e=>by cases e
 |i+1,.cons y r',x,r,e=>by
  have h:=aE7 (i:=i) (l:=r') e
  show _root_.M.tl y++GQ (i+1) r'=(_root_.M.tl y++GQ i r')++_
  rw[h,List.append_assoc]
theorem aN6: ∀(i:Nat)(l:_root_.M.fD),(GQ i l).length<=(_root_.M.tlR l).length
 |0,_=>Nat.zero_le _
 |_+1,.nil=>Nat.zero_le _
 |i+1,.cons x r=>by
  rw[GQ,_root_.M.tlR,List.length_append,List.length_append]
  have:=aN6 i r
  lia
theorem aHl: ∀(l:_root_.M.fD),GQ l.length l=_root_.M.tlR l
 | .nil=>by rw[_root_.M.fD.length,GQ,_root_.M.tlR]
 | .cons x r=>by rw[_root_.M.fD.length,GQ,_root_.M.tlR,aHl r]
theorem aE8 (n:Nat)(GT:bJ P w K mg base (CXE P w) (3+3*n) M.fB.f M.fB.fd m8 (aR7 n)):
  bJ P w K mg base (CXE P w) (4+3*n) M.eU.f M.eU.fd o8 (aK2 n):=by
 refine mU (M.eU.F.okE (k:=3+3*n) JN (fun vs H Q E h=>?_) (fun cdv A outer s H vs Q E hr h=>?_)) (by lia)
 .obtain⟨v,r,rfl,_⟩:=h
  rfl
 .obtain⟨v,r,rfl,hA,hw,hlen,k⟩:=h
  refine⟨_,(aB (bF (i:=1) JN.nd rfl (Or.inl rfl) (cX (aA (dF cU rfl M.sI boot_len (aA (pv 0) aD)) aD)))
   (aB (lM PassesOwn.«leaving» rfl (nM (pv 0)) (cV (i:=2) JN.nd rfl (Or.inl rfl)) (aG (bQ (vY PySem.F.plainAttrs_list PySem.F.slot_list_extend PySem.F.type_list_extend mV (pv 1) (aA (aJ GT (hr.mono (by walk_at "o")) rfl M.fB.m M.fB.k M.fB.b .nil aC (aA (pv 2) aD)) aD)))))
   (aG (aP (pv 1))))),?_⟩
  try dsimp only[aFc]
  unfold _root_.M.pG at hlen k
  rw[List.length_cons] at hlen
  cases hA with
  | @lst a vs _ _ ha hrs=>
   have hs:=SqL.of (K:=K) ha
   have hvl:=hrs.len
   walk_at "go"
   refine⟨by show 1<=sizeLine;decide,fun l nl=>?_⟩
   have s1:=aU nl (.lst [.int (vs.length:Int)])
   walk_at "go"
   refine vR ?_
   walk_at "go"
   refine⟨a,rfl,⟨_,SqL.of (s1 _ _ ha)⟩,?_⟩
   refine aSr (vs:=vs) (fun m σ H'=>Same H H'/\H' l=some (.lst (((vs.length:Int)::GQ m r).map V.int))/\ ∃x1,σ=[some (.ref a),some (.ref l),x1]) ⟨s1,aH,none,rfl⟩ (fun i σ H' p=>SqL.of (p.1 _ _ ha)) ?_ ?_
   .rintro m v σ H2 hm ⟨s2,hl2,x1,rfl⟩
    obtain⟨y,hy,hyA,hyw⟩:=aK1 hrs hw hm
    have hts:=aE7 hy
    have htl:=aN6 (m+1) r
    rw[hts,List.length_append] at htl
    walk_at "go"
    refine⟨tyL hl2,?_⟩
    walk_at "go"
    refine⟨v,y,rfl,hyA.mono s2,hyw,by lia,fun v' H3 s3 hN=>?_⟩
    obtain⟨c,rfl,hc⟩:=hN
    walk_at "go"
    refine aRa (s3 _ _ hl2) hc (by rw[List.length_cons];lia) ?_
    walk_at "go"
    refine⟨aHi (s2.trans s3) nl,?_,_,rfl⟩
    rw[aH,hts]
    rfl
   .rintro σ H2 ⟨s2,hl2,x1,rfl⟩
    rw[hvl,aHl] at hl2
    walk_at "go"
    exact k _ H2 s2 ⟨l,rfl,hl2⟩
theorem aE9: ∀n:Nat,bJ P w K mg base (CXE P w) (3+3*n) M.fB.f M.fB.fd m8 (aR7 n)/\bJ P w K mg base (CXE P w) (4+3*n) M.eU.f M.eU.fd o8 (aK2 n)
 |0=>let t:=aHk M 0 (aE5 M 0 qQ qQ);⟨t,aE8 M 0 t⟩
 |n+1=>let t:=aHk M (n+1) (aE5 M (n+1) (mU (aE9 n).2 (by lia)) (mU (aE9 n).1 (by lia)));⟨t,aE8 M (n+1) t⟩
end
end Pr
end
section
namespace Pr
open PySem PySem.Spec PyProof.Rows L2 SbThing SbPack
section
variable{X:Cx}{C:Addr}{E:XK}{x:Str}{np cpos pos cp:Pos}
noncomputable def aK3 (C:Addr)(E:XK):TS:=fun _ _ H=> ∀e,E (.ref C) (some e) H
theorem aHm {e:Addr}{oe:Obj}{i:Nat}(xo:XOk X E)(hex:X.ex=[])(hh:X.A.handled=some (.ref e))(hp:(e,oe)∈X.pn)(hr:Rec none oe)(hg:Gl X x)(c:XC X.K X.mg x C)(hd:(x==("__debug__":Str))=false:=by decide):
  PS X (.Raise (some (.Call (.Name x np) [] [] cpos)) (some (.Constant .none i cp)) pos) (aK3 C E):=fun pins s σ H D I h=>aSd xo hex hh hp hr hg c hd pins s σ H D I (h e)
theorem aAc {C:Addr}{t u:TS}{D:Ends}{σ:L2.St}{H:Hp}(h:t D σ H):(if C=C then t else u) D σ H:=by
 rw[if_pos rfl]
 exact h
theorem RV {C C':Addr}{t u:TS}{D:Ends}{σ:L2.St}{H:Hp}(n:C'≠C)(h:u D σ H):(if C'=C then t else u) D σ H:=by
 rw[if_neg n]
 exact h
noncomputable def tsN (t:TS):Option Addr->TS
 |none=>t
 |some _=>aO4
end
section
variable{P:Program}{w:World}{K:PySem.W.Frag}{mg:Str->Option Value}{base:Heap}(M:Md w K mg)
theorem TF:bJ P w K mg base (CXE P w) 31 M.eU.f M.eU.fd o8 (aK2 9):=(aE9 M 9).2
noncomputable def aZr (W:Addr):Sp:=fun vs H Q E=>Ex2_ fun v l=>And6_ (vs=[v]) (gZ T0 H v (.lst l)) (_root_.M.allR (_root_.M.wf 9) l) ((_root_.M.pG l).length<=90000) ((_root_.M.fine l=false-> ∀H' d,Same H H'->E (.ref W) d H')) ((_root_.M.fine l=true-> ∀H',Same H H'->Q .non H'))
theorem TJ:bJ P w K mg base (CXE P w) 33 M.lC.f M.lC.fd wK (aZr M.jG):=by
 refine M.lC.F.okE T6 (fun vs H Q E h=>?_) (fun cdv A outer s H vs Q E hr h=>?_)
 .obtain⟨v,l,rfl,_⟩:=h
  rfl
 .obtain⟨v,l,rfl,hA,hw,hl,xw,k⟩:=h
  unfold _root_.M.fine at xw k
  refine⟨_,aB (bF (i:=1) T6.nd rfl (Or.inl rfl) (aJ (TF M) (hr.mono (by walk_at "o")) rfl M.eU.m M.eU.k M.eU.b .nil aC (aA (pv 0) aD)))
   (aB (bR (aW xK (dF cU rfl M.sI boot_len (aA (pv 1) aD)) (dR rfl M.xZ) (bD _)) (aG (iH iR rfl rfl rfl M.wU)) bC)
   (aG (aOk (Eb:=fun cls d H'=>cls= .ref M.bY/\d=none/\Same H H'/\_root_.M.v9 (_root_.M.pG l)=none) uF
    (fun pn W xo=>aG (bQ (aJ (YL M) (hr.mono (by walk_at "o")) rfl M.n8.m M.n8.k M.n8.b .nil (aQo xo rfl) (aA (pv 1) aD))))
    (RK (C:=M.bY) (ts:=tsN (aK3 M.jG E)) uF rfl M.dG (fun pn e oe d hp hd=>match d,hd with
     |none,hd=>aG (aHm (aH1 iR (fun _=>hr.hd) rfl PassesOwnAt.«leaving») rfl rfl hp hd rfl M.wU)
     |some _,_=>Z5) aOj)))),?_⟩
  try dsimp only[aFc]
  walk_at "go"
  refine⟨v,l,rfl,hA,hw,by lia,fun v1 H1 s1 hN=>?_⟩
  obtain⟨b,rfl,hb⟩:=hN
  have hs:=SqL.of (K:=K) hb
  walk_at "go"
  rw[List.length_map]
  refine eN (fun c=>?_) (fun c=>?_)
  .have c: ¬(_root_.M.pG l).length<=2000:=by have:=of_decide_eq_true c;lia
   exact xw (by rw[decide_eq_false c,Bool.false_and]) H1 none s1
  .have c:(_root_.M.pG l).length<=2000:=by
    rcases Nat.lt_or_ge 2000 (_root_.M.pG l).length with z|z
    .exact absurd (decide_eq_true (by lia)) c
    .exact z
   rw[decide_eq_true c,Bool.true_and] at xw k
   walk_at "go"
   refine⟨?_,?_⟩
   .walk_at "go"
    refine⟨(b,true),_,rfl,.inl ⟨rfl,.inl hb⟩,by lia,fun e H2 s2=>⟨rfl,rfl,s1.trans s2,e⟩,fun y hy v2 H2 s2 _=>?_⟩
    walk_at "go"
    exact k (by rw[hy];rfl) H2 (s1.trans s2)
   .rintro cls d σ' H' ⟨rfl,rfl,s2,e⟩
    refine⟨_,rfl,M.dG.cls,?_⟩
    exact aAc (fun e'=>xw (by rw[e];rfl) H' (some e') s2)
noncomputable def aRb (W:Addr):Sp:=fun vs H Q E=>Ex2_ fun(x n:Int)=>And3_ (vs=[.int x,.int n]) ((¬(0<=x/\x<n)->E (.ref W) none H)) (((0<=x/\x<n)->Q .non H))
theorem bZ:bJ P w K mg base (CXE P w) 1 M.aO.f M.aO.fd rZ (aRb M.cY):=by
 refine M.aO.F.okE aBl (fun vs H Q E h=>?_) (fun cdv A outer s H vs Q E hr h=>?_)
 .obtain⟨x,n,rfl,_⟩:=h
  rfl
 .obtain⟨x,n,rfl,xw,k⟩:=h
  refine⟨_,(aG (bR (U3 (aLf aCm KQ aQ (pv 0) (pv 1))) (aG (iH iR rfl rfl rfl M.kW)) bC)),?_⟩
  try dsimp only[aFc]
  walk_at "go"
  refine eN (fun c=>?_) (fun c=>?_)
  .have c:0<=x:=of_decide_eq_true c
   walk_at "go"
   refine eN (fun c1=>?_) (fun c1=>?_)
   .exact xw (fun z=>by rw[decide_eq_true z.2] at c1;cases c1)
   .walk_at "go"
    exact k ⟨c,by simpa using c1⟩
  .have c: ¬0<=x:=fun z=>c (decide_eq_true z)
   walk_at "go"
   exact xw (fun z=>c z.1)
noncomputable def aRc (W:Addr):Sp:=fun vs H Q E=>Ex1_ fun(x:Int)=>And3_ (vs=[.int x]) ((isLen x=false->E (.ref W) none H)) ((isLen x=true->Q .non H))
theorem fV:bJ P w K mg base (CXE P w) 2 M.bN.f M.bN.fd sE (aRc M.cY):=by
 refine M.bN.F.okE aBm (fun vs H Q E h=>?_) (fun cdv A outer s H vs Q E hr h=>?_)
 .obtain⟨x,rfl,_⟩:=h
  rfl
 .obtain⟨x,rfl,xw,k⟩:=h
  refine⟨_,(aG (bR (U3 (nZ (aJ (YJ M) (hr.mono (by walk_at "o")) rfl M.pP.m M.pP.k M.pP.b .nil aC (aA (pv 0) (aA aN aD))))) (aG (iH iR rfl rfl rfl M.kW)) bC)),?_⟩
  try dsimp only[aFc]
  rw[<- _root_.M.fP] at xw k
  walk_at "go"
  refine⟨x,"length",rfl,rfl,?_⟩
  walk_at "go"
  refine eN (fun c=>?_) (fun c=>?_)
  .exact xw (by simpa using c)
  .walk_at "go"
   exact k (by simpa using c)
noncomputable def aVz (W:Addr):Sp:=fun vs H Q E=>Ex2_ fun(x y:Int)=>And3_ (vs=[.int x,.int y]) ((x=y->E (.ref W) none H)) ((x≠y->Q .non H))
theorem QM:bJ P w K mg base (CXE P w) 1 M.jF.f M.jF.fd uQ (aVz M.cY):=by
 refine M.jF.F.okE aDe (fun vs H Q E h=>?_) (fun cdv A outer s H vs Q E hr h=>?_)
 .obtain⟨x,y,rfl,_⟩:=h
  rfl
 .obtain⟨x,y,rfl,xw,k⟩:=h
  refine⟨_,(aG (bR (aW cT (pv 0) (pv 1) (bD _)) (aG (iH iR rfl rfl rfl M.kW)) bC)),?_⟩
  try dsimp only[aFc]
  walk_at "go"
  refine eN (fun c=>?_) (fun c=>?_)
  .exact xw (by have:=of_decide_eq_true c;injection this)
  .walk_at "go"
   exact k (fun e=>c (by subst e;exact decide_eq_true rfl))
end
end Pr
end
section
namespace Pr
open PySem PySem.Spec PyProof.Rows L2 SbThing SbPack
theorem aZs (ns:List Int):_root_.M.bU none (_root_.M.bW 2) ns=(glueIn ns).bind fun y=>if glueOk y.1=true then some (_root_.M.jP (_root_.M.pF y.1),y.2) else none:=by
 have h:=_root_.M.aCy none [] ns
 show _root_.M.bU none (("size","length")::("stretch","length")::("stretch order","order")::("shrink","length")::("shrink order","order")::[]) ns=_
 rw[h]
 cases glueIn ns with
 |none=>rfl
 |some y=>
  show (if glueOk y.1=true then _ else _)=(if glueOk y.1=true then _ else _)
  by_cases c:glueOk y.1=true
  .rw[if_pos c,if_pos c]
   rfl
  .rw[if_neg c,if_neg c]
theorem aT2 {ns:List Int}(h:_root_.M.bU none (_root_.M.bW 2) ns=none):SbSpec.glueAll ns=none:=by
 rw[aZs] at h
 unfold SbSpec.glueAll
 cases e:glueIn ns with
 |none=>rfl
 |some y=>
  rw[e] at h
  obtain⟨g,r⟩:=y
  by_cases c:glueOk g=true
  .rw[show (some (g,r)).bind (fun y=>if glueOk y.1=true then some (_root_.M.jP (_root_.M.pF y.1),y.2) else none)=some (_root_.M.jP (_root_.M.pF g),r) from if_pos c] at h
   cases h
  .cases r with
   |nil=>exact if_neg c
   |cons _ _=>rfl
theorem aT3 {ns:List Int}{fs:_root_.M.gP}{r:List Int}(h:_root_.M.bU none (_root_.M.bW 2) ns=some (fs,r)):Ex1_ fun g=>And3_ (glueOk g=true) (fs=_root_.M.jP (_root_.M.pF g)) (SbSpec.glueAll ns=if r=[] then some g else none):=by
 rw[aZs] at h
 unfold SbSpec.glueAll
 cases e:glueIn ns with
 |none=>rw[e] at h;cases h
 |some y=>
  rw[e] at h
  obtain⟨g,r'⟩:=y
  by_cases c:glueOk g=true
  .rw[show (some (g,r')).bind (fun y=>if glueOk y.1=true then some (_root_.M.jP (_root_.M.pF y.1),y.2) else none)=some (_root_.M.jP (_root_.M.pF g),r') from if_pos c] at h
   cases h
   refine⟨g,c,rfl,?_⟩
   cases r with
   |nil=>exact(if_pos c).trans (if_pos rfl).symm
   |cons _ _=>rfl
  .rw[show (some (g,r')).bind (fun y=>if glueOk y.1=true then some (_root_.M.jP (_root_.M.pF y.1),y.2) else none)=none from if_neg c] at h
   cases h
theorem aPi: ∀x∈_root_.M.bW 2,(_root_.M.nO x.2).isSome=true:=by
 intro x hx
 simp[_root_.M.bW] at hx
 rcases hx with rfl|rfl|rfl|rfl|rfl <;>rfl
section
variable{P:Program}{w:World}{K:PySem.W.Frag}{mg:Str->Option Value}{base:Heap}(M:Md w K mg)
noncomputable def bDz (W:Addr):Sp:=fun vs H Q E=>Ex2_ fun(a:Addr×Bool)(ns:List Int)=>And5_ (vs=[.ref a.1]) (SqM K H a (ns.map V.int)) (ns.length<=100000) ((SbSpec.glueAll ns=none-> ∀H',Same H H'->E (.ref W) none H')) (∀g,SbSpec.glueAll ns=some g-> ∀(v:V)(H':Hp),Same H H'->Th H' v (.glue g)->Q v H')
theorem aK4:bJ P w K mg base (CXE P w) 4 M.tY.f M.tY.fd zA (bDz (K:=K) M.bY):=by
 refine M.tY.F.okE rW (fun vs H Q E h=>?_) (fun cdv A outer s H vs Q E hr h=>?_)
 .obtain⟨a,ns,rfl,_⟩:=h
  rfl
 .obtain⟨a,ns,rfl,hS,hl,xw,k⟩:=h
  have hb:gA j9=[stm (gA j9) 0,stm (gA j9) 1,stm (gA j9) 2,stm (gA j9) 3,stm (gA j9) 4]:=rfl
  obtain⟨s3,h3⟩: ∃s3,s3=stm (gA j9) 1:=⟨_,rfl⟩
  have hd:s3=_:=h3
  rw[<- h3] at hb
  rw[hb]
  refine⟨_,(aB (bF (i:=1) rW.nd rfl (Or.inl rfl) (dX M.jA.ma (yF M) (hr.mono (by walk_at "o")) rfl M.bL.m M.jA.b .nil aC (aA (pv 0) aD)))
   (aB (aE1 (i:=2) hd rW.nd rfl (Or.inl rfl) (mO aN aN aIk) rfl rfl (List.cons_ne_nil _ _) (by decide) rfl (by first|exact .inl rfl|exact .inr rfl))
   (aB (lM PassesOwn.«leaving» rfl (aCj (XS rfl M.YB aN (fun _ _=>rfl))) (M8 (n:=2) rfl (gW (cV (i:=3) rW.nd rfl (Or.inl rfl)) (gW (cV (i:=4) rW.nd rfl (Or.inl rfl)) yM))) (aG (aBz (bO hr) (pv 2) (pv 3) (aJ (yG M) (hr.mono (by walk_at "o")) rfl M.g8.m M.g8.k M.g8.b .nil aC (aA (pv 1) (aA (pv 4) aD))) rfl)))
   (aB (bR (U3 (nZ (lN (pv 1) M.bL.c M.cG.m (vU M) (hr.mono (by walk_at "o")) M.cG.b .nil aC))) (aG (iH iR rfl rfl rfl M.dG)) bC)
   (aG (aP (pv 2))))))),?_⟩
  try dsimp only[aFc]
  walk_at "go"
  refine aVv hS hl fun p H1 np s1 R1=>?_
  walk_at "go"
  intro d nd
  walk_at "go"
  refine aHe [(keyOf "kind",.str (Str.ofString "glue"))] aH rfl (by show 1<=15;decide) ?_
  rw[aR5,gD]
  obtain⟨t,bs,tb,tp,pr⟩:=M.tb.frm 2 (by decide)
  obtain⟨nf,nk,fo⟩:=YK 2 (by decide)
  obtain⟨dx,i0,hp⟩:=R1.ins
  have hdp:p≠d:=aX hp nd
  walk_at "go"
  refine aDs ?_
  refine aJz ?_
  walk_at "go"
  refine⟨_,_,.ref t,rfl,tb,rfl,t,rfl,⟨_,tp.sq _⟩,?_⟩
  refine aV4 (vs:=bs.map V.ref) (fun i σ H'=> ∃kvs fs u x5 x6,RtI (K:=K) M.bL.C a H1 H' p d 0 2 ns i kvs fs u/\σ=[some (.ref a.1),some (.ref p),some (.ref d),x5,x6])
   ⟨[],.nil,ns,none,none,⟨QL R1 nd,(Sb.refl p H1).new nd _,aH,.nil,rfl,?_⟩,rfl⟩ (fun i σ H' _=>tp.sq H') ?_ ?_
  .show _=(_root_.M.bU (_root_.M.KY 0) (_root_.M.bW 2) ns).map fun z=>(_root_.M.gP.app .nil z.1,z.2)
   cases _root_.M.bU (_root_.M.KY 0) (_root_.M.bW 2) ns with
   |none=>rfl
   |some z=>rfl
  .rintro i v σ H2 hi ⟨kvs,fs,u,x5,x6,I2,rfl⟩
   rw[List.getElem?_map] at hi
   obtain⟨b,hb,rfl⟩:=Option.map_eq_some_iff.mp hi
   obtain⟨⟨f,form⟩,hf,tf⟩:=Paired.at_ pr hb
   obtain⟨e1,e2⟩:=iQ hf
   have hd':(_root_.M.bW 2).drop i=(f,form)::(_root_.M.bW 2).drop (i+1):=by
    have hl:=(List.getElem?_eq_some_iff.mp hf)
    rw[<- hl.2]
    exact List.drop_eq_getElem_cons hl.1
   have hn:(_root_.M.nO form).isSome=true:=aPi _ (List.mem_of_getElem? hf)
   have q1: ¬form="list":=fun e=>by subst e;cases hn
   have q2: ¬form="thing":=fun e=>by subst e;cases hn
   have q3: ¬form="side":=fun e=>by subst e;cases hn
   have e0:_root_.M.sW (_root_.M.KY 0) form u=_root_.M.vZ form u:=_root_.M.aIn ⟨q1,q2,q3⟩
   refine aC9 (tf.sq H2) ?_
   walk_at "go"
   refine⟨p,a,u,form,rfl,I2.rd,hn,fun e H' sb=>?_,fun x rr e H3 R3 s3=>?_⟩
   .refine xw (aT2 ?_) H' (aCa s1 (I2.sb.trans sb) np)
    have hq:=I2.eq
    rw[hd',_root_.M.gF,e0,e] at hq
    exact hq
   .have hd3:=s3 d _ I2.dd (Ne.symm hdp)
    walk_at "go"
    have nin:keyOf f∉((keyOf "kind",V.str (Str.ofString (_root_.M.kindName 2)))::kvs).map (·.1):=by
     rw[List.map_cons,I2.ks,List.mem_cons]
     rintro(z|z)
     .exact nk (List.mem_map.mpr ⟨(f,form),List.mem_of_getElem? hf,u6 z⟩)
     .obtain⟨y,hy,ey⟩:=List.mem_map.mp z
      have ey:=u6 ey
      rw[e1,List.map_append,List.nodup_append] at nf
      exact nf.2.2 y.1 (List.mem_map.mpr ⟨y,hy,rfl⟩) f (by simp) ey
    refine⟨d,_,rfl,aIh.k (k:=keyOf f) hd3 ?_,?_⟩
    .have:(kvs.map (·.1)).length<=9:=by
      rw[I2.ks,List.length_map,List.length_take]
      have:=aHf 2 (by decide)
      lia
     rw[List.length_map] at this
     have:=big'
     rw[List.length_cons]
     lia
    .rw[aHg nin]
     have old:bV (fun b=>H1 b=none/\b≠d) H3 kvs fs:=bV.imp (fun b o hb e=>⟨hb,s3 b o e (fun z=>by subst z;rw[hp] at hb;cases hb.1)⟩) I2.at_
     have mv: ∀b o,(H1 b=none/\b≠d)->H3 b=some o->(H1 b=none/\b≠d)/\upd H3 d (.dK (((keyOf "kind",.str (Str.ofString (_root_.M.kindName 2)))::kvs)++[(keyOf f,.int x)])) b=some o:=fun b o hb e=>⟨hb,by rw[aM hb.2];exact e⟩
     refine⟨kvs++[(keyOf f,.int x)],fs.app (.cons f (.int x) .nil),rr,some _,some _,⟨aVr R3 (Ne.symm hdp) hd3,?_,aH,bV.imp mv (aE3 .int old),?_,?_⟩,rfl⟩
     .intro b o hb hbp
      rw[aM (aX hb nd)]
      exact s3 b o (I2.sb b o hb hbp) hbp
     .rw[List.map_append,I2.ks,e2,List.map_append]
      rfl
     .rw[I2.eq,hd',aB4 (e0.trans e),Option.map_map]
      congr 1
      funext z
      show (fs.app (.cons f (.int x) z.1),z.2)=((fs.app (.cons f (.int x) .nil)).app z.1,z.2)
      rw[aAb]
      rfl
  .rintro σ H2 ⟨kvs,fs,u,x5,x6,I2,rfl⟩
   have hl:(bs.map V.ref).length=(_root_.M.bW 2).length:=by rw[List.length_map];exact pr.length
   have e:=I2.eq
   rw[hl,List.drop_length,_root_.M.iI,Option.map_some,_root_.M.aIs] at e
   obtain⟨g,g1,g2,g3⟩:=aT3 e
   have s2:=aCa s1 I2.sb np
   obtain⟨dx2,i2,hp2⟩:=I2.rd.ins
   walk_at "go"
   refine⟨p,a,u,rfl,I2.rd,?_⟩
   walk_at "go"
   refine eN (fun c=>?_) (fun c=>?_)
   .have c: ¬u=[]:=by simpa using c
    rw[if_neg c] at g3
    exact xw g3 H2 s2
   .have c:u=[]:=by simpa using c
    rw[if_pos c] at g3
    walk_at "go"
    refine k g g3 _ H2 s2 ?_
    unfold Th
    rw[_root_.M.rawOf,<- g2]
    exact .mk trivial I2.dd (bV.imp (fun b o _ e=>⟨trivial,e⟩) I2.at_)
noncomputable def aT4 (W:Addr):Sp:=fun vs H Q E=>Ex2_ fun(a:Addr×Bool)(ns:List Int)=>And5_ (vs=[.ref a.1]) (SqM K H a (ns.map V.int)) (ns.length<=100000) ((SbSpec.glueAll ns=none-> ∀H' d,Same H H'->E (.ref W) d H')) (∀g,SbSpec.glueAll ns=some g-> ∀(v:V)(H':Hp),Same H H'->Th H' v (.glue g)->Q v H')
theorem aK5:bJ P w K mg base (CXE P w) 5 M.tZ.f M.tZ.fd zB (aT4 (K:=K) M.cY):=by
 refine M.tZ.F.okE aJa (fun vs H Q E h=>?_) (fun cdv A outer s H vs Q E hr h=>?_)
 .obtain⟨a,ns,rfl,_⟩:=h
  rfl
 .obtain⟨a,ns,rfl,hS,hl,xw,k⟩:=h
  refine⟨_,aG (aOk (Eb:=fun cls d H'=>cls= .ref M.bY/\d=none/\Same H H'/\SbSpec.glueAll ns=none) uF
    (fun pn W xo=>aG (aP (aJ (aK4 M) (hr.mono (by walk_at "o")) rfl M.tY.m M.tY.k M.tY.b .nil (aQo xo rfl) (aA (pv 0) aD))))
    (RK (C:=M.bY) (ts:=tsN (aK3 M.cY E)) uF rfl M.dG (fun pn e oe d hp hd=>match d,hd with
     |none,hd=>aG (aHm (aH1 iR (fun _=>hr.hd) rfl PassesOwnAt.«leaving») rfl rfl hp hd rfl M.kW)
     |some _,_=>Z5) aOj)),?_⟩
  try dsimp only[aFc]
  refine⟨?_,?_⟩
  .walk_at "go"
   exact⟨a,ns,rfl,hS,hl,fun e H2 s2=>⟨rfl,rfl,s2,e⟩,k⟩
  .rintro cls d σ' H' ⟨rfl,rfl,s2,e⟩
   exact⟨_,rfl,M.dG.cls,aAc (fun e'=>xw e H' (some e') s2)⟩
end
end Pr
end
section
namespace Pr
open PySem PySem.Spec PyProof.Rows L2 SbThing SbPack
theorem aAd:aAr O5 (aL rH) {kind:= .function,names:=[(".0",.local),("k",.local),("first",.free),("step",.free)],isGenerator:=false,isCoroutine:=false,more:=[]} [("k",3)]:=⟨rfl,by decide +kernel,by decide +kernel,by decide +kernel,by decide +kernel⟩
section
variable{K:PySem.W.Frag}{σ:L2.St}{H:Hp}{Q:VK}
theorem aRd {ta:TA}{g:TG}{tt:TT}{te:TE}{vs:List Nat}(h:ta σ H fun xs H1=> ∃j:Int,xs=[.int j]/\ -(2^62)<=j/\j<2^62/\ ∀D,H1 D=none-> ∃W:Nat->Nat->Hp->Prop,(∃m,W 0 m (upd H1 D (.lst [])))/\ ∀i m H,W i m H->
 ((Itr 0 j.toNat).stop i H/\Q (.ref D) H)\/((Itr 0 j.toNat).go i H/\ ∃Nx:Hp->Prop,(∀H',Nx H'-> ∃m',m'<m/\W (i+1) m' H')/\ ∀x H',(Itr 0 j.toNat).yld i H x H'->g x (wipe σ vs) H' fun σ2 H2=>wipe σ2 vs=wipe σ vs/\tt σ2 H2 fun b H3=>
  if b=true then te σ2 H3 fun y H4=> ∃acc,H4 D=some (.lst acc)/\acc.length<sizeLine/\Nx (upd H4 D (.lst (acc++[y]))) else Nx H3)):tLc (aTx ta) g tt te vs σ H Q:=h
theorem aRe {QB:Bool->Hp->Prop}(h:QB true H):bAc σ H QB:=h
end
section
variable{P:Program}{w:World}{K:PySem.W.Frag}{mg:Str->Option Value}{base:Heap}(M:Md w K mg)
noncomputable def aXz:Sp:=fun vs H Q _=>Ex3_ fun(first step times:Int)=>And3_ (vs=[.int first,.int step,.int times]) (0<=times) (∀v H',Same H H'->NAt H' v ((List.range (min 16 times.toNat)).map fun(i:Nat)=>first+(i:Int)*step)->Q v H')
theorem vV:bJ P w K mg base (CXE P w) 1 M.eO.f M.eO.fd rJ aXz:=by
 refine M.eO.F.okE vL (fun vs H Q E h=>?_) (fun cdv A outer s H vs Q E hr h=>?_)
 .obtain⟨_,_,_,rfl,_⟩:=h
  rfl
 .obtain⟨first,step,times,rfl,ht,k⟩:=h
  refine⟨_,(aG (aP (aGw (own:=[("k",3)]) rfl vL.nd (DK rfl M.RT (aA (dF (Z6 rfl) rfl M.aQv boot_min (aA (pv 2) (aA (dR rfl M.T7) aD))) aD)) aAd (fun _ _ _ _ _=>(cV (i:=3) vL.nd rfl (Or.inl rfl))) (fun _ _ _ _ _=>WK) (fun _ _ _ _ _=>(cN fH (pv 0) (cN aI9 (pv 3) (pv 1))))))),?_⟩
  try dsimp only[aFc]
  walk_at "go"
  refine aRd ?_
  walk_at "go"
  rw[bBg]
  have e:(min times 16).toNat=min 16 times.toNat:=by lia
  refine⟨min times 16,rfl,by lia,by lia,fun D nD=>?_⟩
  refine WL (fun i H'=>Same H H'/\H' D=some (.lst (((List.range i).map fun(i:Nat)=>first+(i:Int)*step).map V.int))/\i<=16) ⟨aU nD _,aH,Nat.zero_le _⟩ (fun i H' hi⟨s1,hD,_⟩=>?_) (fun H'⟨s1,hD,_⟩=>?_)
  .walk_at "go"
   refine⟨rfl,?_⟩
   refine aRe ?_
   walk_at "go"
   refine LR (.inl ⟨by lia,by lia⟩) ?_
   walk_at "go"
   refine⟨_,hD,?_,lV s1 nD,?_,by lia⟩
   .rw[List.length_map,List.length_map,List.length_range]
    have:(10000000:Nat)<=sizeLine:=by decide
    lia
   .rw[aH,List.range_succ,List.map_append,List.map_append,Int.zero_add]
    rfl
  .refine k _ H' s1 ⟨D,rfl,?_⟩
   rw[<- e]
   exact hD
end
end Pr
end
section
namespace Pr
open PySem PySem.Spec PyProof.Rows L2 SbThing SbPack
theorem lp0 {p s w:Int}(hw:0<w)(hs:w<=s):0<=(p+s-(-(-p/w))*w)/w/\leaderPlaces 0 p s w=(List.range (min 16 ((p+s-(-(-p/w))*w)/w).toNat)).map fun(i:Nat)=>(-(-p/w))*w+(i:Int)*w:=by
 have e0:(-(-p/w))*w= -(w*(-p/w)):=by rw[Int.neg_mul,Int.mul_comm]
 have e1:=Int.mul_ediv_add_emod (-p) w
 have e2:=Int.emod_nonneg (-p) (show w≠0 by lia)
 have e3:=Int.emod_lt_of_pos (-p) hw
 have nn:0<=p+s-(-(-p/w))*w:=by rw[e0];lia
 refine⟨Int.ediv_nonneg nn (by lia),?_⟩
 have e4:(p+s-(-(-p/w))*w)/w=(p+s)/w-(-(-p/w)):=by
  have:=Int.add_mul_ediv_right (p+s) (-(-(-p/w))) (show w≠0 by lia)
  rw[Int.neg_mul] at this
  rw[Int.sub_eq_add_neg,this,<- Int.sub_eq_add_neg]
 rw[e4]
 unfold leaderPlaces
 rw[if_neg (by lia),if_pos rfl]
 show (List.range (min 16 _)).map _=_
 refine List.map_congr_left fun i _=>?_
 rw[Int.add_mul]
theorem lp1 {p s w:Int}(hw:0<w)(hs:w<=s):0<=s/w/\leaderPlaces 1 p s w=(List.range (min 16 (s/w).toNat)).map fun(i:Nat)=>(p+s%w/2)+(i:Int)*w:=by
 have h0:0<=s/w:=Int.ediv_nonneg (by lia) (by lia)
 refine⟨h0,?_⟩
 unfold leaderPlaces
 rw[if_neg (by lia),if_neg (by decide)]
 have e:s-(((s/w).toNat:Nat):Int)*w=s%w:=by
  rw[Int.toNat_of_nonneg h0,Int.emod_def,Int.mul_comm]
 simp only[e,if_pos]
 rfl
theorem lp2 {p s w:Int}{how:Nat}(hw:0<w)(hs:w<=s)(h2:2<=how):0<=s/w/\leaderPlaces how p s w=(List.range (min 16 (s/w).toNat)).map fun(i:Nat)=>(p+s%w/(s/w+1))+(i:Int)*(w+s%w/(s/w+1)):=by
 have h0:0<=s/w:=Int.ediv_nonneg (by lia) (by lia)
 refine⟨h0,?_⟩
 unfold leaderPlaces
 rw[if_neg (by lia),if_neg (by lia)]
 have e:s-(((s/w).toNat:Nat):Int)*w=s%w:=by
  rw[Int.toNat_of_nonneg h0,Int.emod_def,Int.mul_comm]
 simp only[e,if_neg (show ¬how=1 by lia)]
 rw[Int.toNat_of_nonneg h0]
 rfl
theorem aK6 {p s w:Int}{how:Nat}(h:w<1\/s<w):leaderPlaces how p s w=[]:=by
 unfold leaderPlaces
 by_cases c:s<=0\/w<=0
 .rw[if_pos c]
 .have hw:0<w:=by lia
  have hs:s<w:=by lia
  have h0:s/w=0:=Int.ediv_eq_zero_of_lt (by lia) hs
  rw[if_neg c]
  by_cases c0:how=0
  .rw[if_pos c0]
   have e1:=Int.mul_ediv_add_emod (-p) w
   have e2:=Int.emod_nonneg (-p) (show w≠0 by lia)
   have f1:=Int.mul_ediv_add_emod (p+s) w
   have f2:=Int.emod_nonneg (p+s) (show w≠0 by lia)
   have key:(p+s)/w - -(-p/w)<=0:=by
    rcases Int.lt_or_le 0 ((p+s)/w - -(-p/w)) with z|z
    .have z1:1<=(p+s)/w+(-p/w):=by lia
     have z2:w*1<=w*((p+s)/w+(-p/w)):=Int.mul_le_mul_of_nonneg_left z1 (by lia)
     rw[Int.mul_add] at z2
     lia
    .exact z
   simp only[show ((p+s)/w - -(-p/w)).toNat=0 by lia]
   rfl
  .rw[if_neg c0]
   simp only[h0]
   split <;>rfl
section
variable{P:Program}{w:World}{K:PySem.W.Frag}{mg:Str->Option Value}{base:Heap}(M:Md w K mg)
noncomputable def bE0 (size place space:Int):Prop:=0<size/\size<2^62/\size<=space/\space<2^150/\ -(2^150)<place/\place<2^150
noncomputable def aW0 (how:Nat):Sp:=fun vs H Q _=>Ex3_ fun(size place space:Int)=>And3_ (vs=[.int size,.int place,.int space]) (bE0 size place space) (∀v H',Same H H'->NAt H' v (leaderPlaces how place space size)->Q v H')
theorem aPj:bJ P w K mg base (CXE P w) 2 M.K8.f M.K8.fd RL (aW0 0):=by
 refine M.K8.F.okE aD5 (fun vs H Q E h=>?_) (fun cdv A outer s H vs Q E hr h=>?_)
 .obtain⟨_,_,_,rfl,_⟩:=h
  rfl
 .obtain⟨sz,p,sp,rfl,⟨h1,h2,h3,h4,h5,h6⟩,k⟩:=h
  refine⟨_,(aB (bF (i:=3) aD5.nd rfl (Or.inl rfl) (cN aI9 (T3 zU (cN vG (T3 zU (pv 1)) (pv 0))) (pv 0)))
   (aG (aP (aJ (vV M) (hr.mono (by walk_at "o")) rfl M.eO.m M.eO.k M.eO.b .nil aC (aA (pv 3) (aA (pv 0) (aA (cN vG (cN sZ (cN fH (pv 1) (pv 2)) (pv 3)) (pv 0)) aD))))))),?_⟩
  try dsimp only[aFc]
  obtain⟨t0,te⟩:=lp0 (p:=p) h1 h3
  rw[te] at k
  walk_at "go"
  refine LR ⟨h1,by lia⟩ ?_
  walk_at "go"
  refine LR (.inr ⟨by lia,by lia⟩) ?_
  walk_at "go"
  refine LR ⟨h1,by lia⟩ ?_
  walk_at "go"
  exact⟨_,_,_,rfl,t0,k⟩
theorem aPk:bJ P w K mg base (CXE P w) 2 M.centred.f M.centred.fd RM (aW0 1):=by
 refine M.centred.F.okE aOv (fun vs H Q E h=>?_) (fun cdv A outer s H vs Q E hr h=>?_)
 .obtain⟨_,_,_,rfl,_⟩:=h
  rfl
 .obtain⟨sz,p,sp,rfl,⟨h1,h2,h3,h4,h5,h6⟩,k⟩:=h
  refine⟨_,(aG (aP (aJ (vV M) (hr.mono (by walk_at "o")) rfl M.eO.m M.eO.k M.eO.b .nil aC (aA (cN fH (pv 1) (cN vG (cN aU1 (pv 2) (pv 0)) aQ)) (aA (pv 0) (aA (cN vG (pv 2) (pv 0)) aD)))))),?_⟩
  try dsimp only[aFc]
  obtain⟨t0,te⟩:=lp1 (p:=p) h1 h3
  rw[te] at k
  walk_at "go"
  refine LR h1 ?_
  walk_at "go"
  refine LR ⟨by decide,by decide⟩ ?_
  walk_at "go"
  refine LR ⟨h1,by lia⟩ ?_
  walk_at "go"
  exact⟨_,_,_,rfl,t0,k⟩
theorem aT5:bJ P w K mg base (CXE P w) 2 M.spread.f M.spread.fd X8 (aW0 2):=by
 refine M.spread.F.okE ZR (fun vs H Q E h=>?_) (fun cdv A outer s H vs Q E hr h=>?_)
 .obtain⟨_,_,_,rfl,_⟩:=h
  rfl
 .obtain⟨sz,p,sp,rfl,⟨h1,h2,h3,h4,h5,h6⟩,k⟩:=h
  refine⟨_,(aB (bF (i:=3) ZR.nd rfl (Or.inl rfl) (cN vG (pv 2) (pv 0)))
   (aB (bF (i:=4) ZR.nd rfl (Or.inl rfl) (cN vG (cN aU1 (pv 2) (pv 0)) (cN fH (pv 3) aQ)))
   (aG (aP (aJ (vV M) (hr.mono (by walk_at "o")) rfl M.eO.m M.eO.k M.eO.b .nil aC (aA (cN fH (pv 1) (pv 4)) (aA (cN fH (pv 0) (pv 4)) (aA (pv 3) aD)))))))),?_⟩
  try dsimp only[aFc]
  obtain⟨t0,te⟩:=lp2 (p:=p) (how:=2) h1 h3 (by lia)
  rw[te] at k
  have ts:sp/sz<=sp:=Int.ediv_le_self _ (by lia)
  walk_at "go"
  refine LR ⟨h1,by lia⟩ ?_
  walk_at "go"
  refine LR h1 ?_
  walk_at "go"
  refine LR ⟨by lia,by lia⟩ ?_
  walk_at "go"
  exact⟨_,_,_,rfl,t0,k⟩
noncomputable def aY0:Sp:=fun vs H Q _=>Ex4_ fun(how:Nat)(size place space:Int)=>And9_ (vs=[.int how,.int size,.int place,.int space]) (how<=2) (-(2^62)<size) (size<2^62) (-(2^150)<space) (space<2^150) (-(2^150)<place) (place<2^150) (∀v H',Same H H'->NAt H' v (leaderPlaces how place space size)->Q v H')
theorem QT:bJ P w K mg base (CXE P w) 3 M.jE.f M.jE.fd uK aY0:=by
 refine M.jE.F.okE aD7 (fun vs H Q E h=>?_) (fun cdv A outer s H vs Q E hr h=>?_)
 .obtain⟨_,_,_,_,rfl,_⟩:=h
  rfl
 .obtain⟨how,sz,p,sp,rfl,hh,h1,h2,h3,h4,h5,h6,k⟩:=h
  refine⟨_,(aB (bR (PW.pt (aCf (aW KQ (pv 1) aQ (bD _)) (U0 (aW KQ (pv 3) (pv 1) (bD _))))) (aG (aP (cX aD))) bC)
   (aB (bR (aW cT (pv 0) (dR rfl M.aH6) (bD _)) (aG (aP (aJ (aPj M) (hr.mono (by walk_at "o")) rfl M.K8.m M.K8.k M.K8.b .nil aC (aA (pv 1) (aA (pv 2) (aA (pv 3) aD)))))) bC)
   (aB (bR (aW cT (pv 0) (dR rfl M.aH7) (bD _)) (aG (aP (aJ (aPk M) (hr.mono (by walk_at "o")) rfl M.centred.m M.centred.k M.centred.b .nil aC (aA (pv 1) (aA (pv 2) (aA (pv 3) aD)))))) bC)
   (aG (aP (aJ (aT5 M) (hr.mono (by walk_at "o")) rfl M.spread.m M.spread.k M.spread.b .nil aC (aA (pv 1) (aA (pv 2) (aA (pv 3) aD))))))))),?_⟩
  try dsimp only[aFc]
  have no:(sz<1\/sp<sz)->aLg aFb (L2.start T5 [.int how,.int sz,.int p,.int sp]) H Q:=fun z=>by
   rw[aK6 z] at k
   exact⟨Nat.zero_le _,fun q nq=>k _ _ (aU nq _) ⟨q,rfl,aH⟩⟩
  walk_at "go"
  refine eN (fun c=>?_) (fun c=>?_)
  .walk_at "go"
   rw[aK6 (.inl (of_decide_eq_true c))] at k
   exact⟨Nat.zero_le _,fun q nq=>k _ _ (aU nq _) ⟨q,rfl,aH⟩⟩
  .have c: ¬sz<1:=fun z=>c (decide_eq_true z)
   walk_at "go"
   refine eN (fun c2=>?_) (fun c2=>?_)
   .walk_at "go"
    rw[aK6 (.inr (of_decide_eq_true c2))] at k
    exact⟨Nat.zero_le _,fun q nq=>k _ _ (aU nq _) ⟨q,rfl,aH⟩⟩
   .have c2: ¬sp<sz:=fun z=>c2 (decide_eq_true z)
    have b3:bE0 sz p sp:=⟨by lia,h2,by lia,h4,h5,h6⟩
    match how,hh with
    |0,_=>
     walk_at "go"
     exact⟨sz,p,sp,rfl,b3,k⟩
    |1,_=>
     walk_at "go"
     exact⟨sz,p,sp,rfl,b3,k⟩
    |2,_=>
     walk_at "go"
     exact⟨sz,p,sp,rfl,b3,k⟩
end
end Pr
end
section
namespace Pr
open SbThing SbPack
theorem oH {p q:Thing->Bool}(h: ∀t,p t=true->q t=true){l:List Thing}(k:l.all p=true):l.all q=true:=by
 rw[List.all_eq_true] at k ⊢
 exact fun t ht=>h t (k t ht)
theorem aN7: ∀(n:Nat)(t:Thing),plain n t=true->plain (n+1) t=true:=by
 intro n
 induction n with
 |zero=>
  intro t h
  cases t <;>first|rfl|cases h
 |succ n ih=>
  intro t h
  cases t with
  |box c w hh d s sh l=>exact oH ih h
  |disc a b c=>
   have h:(a.all (plain n)&&(b.all (plain n)&&c.all (plain n)))=true:=h
   show (a.all (plain (n+1))&&(b.all (plain (n+1))&&c.all (plain (n+1))))=true
   rw[Bool.and_eq_true,Bool.and_eq_true] at h ⊢
   exact⟨oH ih h.1,oH ih h.2.1,oH ih h.2.2⟩
  |adjust l=>exact oH ih h
  |insert c g d cost l=>exact oH ih h
  |leaders g how u=>cases h
  |_=>rfl
theorem aN8: ∀(n:Nat)(t:Thing),right n t=true->right (n+1) t=true:=by
 intro n
 induction n with
 |zero=>
  intro t h
  cases t with
  |leaders g how u=>cases h
  |box c w hh d s sh l=>cases h
  |disc a b c=>cases h
  |adjust l=>cases h
  |insert c g d cost l=>cases h
  |_=>exact h
 |succ n ih=>
  intro t h
  cases t with
  |leaders g how u=>
   simp only[right,Bool.and_eq_true] at h ⊢
   exact⟨h.1,h.2.1,h.2.2.1,aN7 n u h.2.2.2.1,ih u h.2.2.2.2⟩
  |box c w hh d s sh l=>
   simp only[right,Bool.and_eq_true] at h ⊢
   exact⟨h.1,h.2.1,h.2.2.1,h.2.2.2.1,h.2.2.2.2.1,oH ih h.2.2.2.2.2⟩
  |disc a b c=>
   simp only[right,Bool.and_eq_true] at h ⊢
   exact⟨oH ih h.1,oH ih h.2.1,oH ih h.2.2⟩
  |adjust l=>rw[right] at h ⊢;exact oH ih h
  |insert c g d cost l=>
   simp only[right,Bool.and_eq_true] at h ⊢
   exact⟨h.1,h.2.1,h.2.2.1,h.2.2.2.1,oH ih h.2.2.2.2⟩
  |_=>exact h
theorem aW1 {n m:Nat}(h:n<=m){t:Thing}(k:right n t=true):right m t=true:=by
 induction h with
 |refl=>exact k
 |step _ ih=>exact aN8 _ _ ih
theorem all_le {n m:Nat}(h:n<=m){l:List Thing}(k:l.all (right n)=true):l.all (right m)=true:=oH (fun t=>aW1 h) k
noncomputable def GX (c:Bool)(l:List Thing):Int:=if c=true then columnSum l else(rowSize l).w
noncomputable def GZ (c:Bool)(t:Thing):Int:=if c=true then inColumn t else(inRow 9 t).w
theorem aEa (c:Bool)(l:List Thing)(t:Thing):GX c (l++[t])=GX c l+GZ c t:=by
 unfold GX GZ
 cases c with
 |true=>exact aJn l t
 |false=>
  show (rowSize (l++[t])).w=(rowSize l).w+(inRow 9 t).w
  have:rowSize (l++[t])=beside (rowSize l) (inRow 9 t):=aDt 8 l t
  rw[this]
  rfl
theorem VP (c:Bool)(s:SbThing.Setting)(l:List Thing):placeIn c s l=GX c l+added s l:=by
 unfold placeIn GX
 cases c <;>rfl
theorem aN9 (c:Bool)(s:SbThing.Setting):placeIn c s []=0:=by
 rw[VP]
 have h1:GX c []=0:=by cases c <;>rfl
 have h2:added s []=0:=by
  unfold added
  split
  .show s.num*0/_=0
   rw[Int.mul_zero,Int.zero_ediv]
  .split
   .show s.num*0/_=0
    rw[Int.mul_zero,Int.zero_ediv]
   .rfl
 rw[h1,h2]
 rfl
theorem aNa {c:Bool}{l:List Thing}(h:Bd l)(hR:l.all (right 8)=true): -(2^62)<GX c l/\GX c l<2^62:=by
 have h1:=aDu l h.rt
 have h3:=h.len
 have h4:=h.sz
 have h5:=aB2 hR
 unfold GX
 split
 .lia
 .have e:(rowSize l).w=(rowOf 8 l).w:=rfl
  rw[e]
  lia
theorem aHn {a b:Int}(h1: -(2^60)<a)(h2:a<2^60)(h3: -(2^63)<b)(h4:b<2^63): -(2^123)<=a*b/\a*b<=2^123:=by
 have ha:a.natAbs<=2^60:=by lia
 have hb:b.natAbs<=2^63:=by lia
 have h:(a*b).natAbs<=2^60*2^63:=by rw[Int.natAbs_mul];exact Nat.mul_le_mul ha hb
 have e:(2:Nat)^60*2^63=2^123:=by decide
 rw[e] at h
 lia
theorem aHo {a d:Int}(hd:1<=d)(h1: -(2^123)<=a)(h2:a<=2^123): -(2^123)<=a/d/\a/d<=2^123:=by
 constructor
 .exact(Int.le_ediv_iff_mul_le (by lia)).mpr (by
   have: -(2^123)*d<= -(2^123)*1:=Int.mul_le_mul_of_nonpos_left (by decide) hd
   lia)
 .rcases Int.lt_or_le a 0 with z|z
  .have:a/d<0:=Int.ediv_neg_of_neg_of_pos z (by lia)
   have:(0:Int)<=2^123:=by decide
   lia
  .exact Int.le_trans (Int.ediv_le_self _ z) h2
theorem zR {c:Bool}{s:SbThing.Setting}{l:List Thing}(h:Bd l)(hR:l.all (right 8)=true)(z1:s.order<=3)(z2: -1152921504606846976<s.num)(z3:s.num<1152921504606846976)(z4:1<=s.den): -(2^124)<placeIn c s l/\placeIn c s l<2^124:=by
 rw[VP]
 have h1:=aNa (c:=c) h hR
 have h2: -(2^123)<=added s l/\added s l<=2^123:=by
  unfold added
  have b:=h.bnd
  have b1:=b.st s.order z1
  have b2:=b.sh s.order z1
  split
  .have m:=aHn (a:=s.num) (by lia) (by lia) b1.1 b1.2
   exact aHo (by lia) m.1 m.2
  .split
   .have m:=aHn (a:=s.num) (by lia) (by lia) b2.1 b2.2
    exact aHo (by lia) m.1 m.2
   .exact⟨by decide,by decide⟩
 lia
noncomputable def lH (f:SbPack.Around->List Thing->List Leaf)(ah ad:Int)(t:Thing)(x y:Int):List Leaf:=match t with
 | .glyph n _ _ _=>[.glyph n x y]
 | .anchor n=>[.anchor n x y]
 | .box c w h d z shift l=>f ⟨c,w,h,d,z,x,y+shift⟩ l
 | .rule w h d=>ruleLeaf x y (w.getD 0) (h.getD ah) (d.getD ad)
 |_=>[]
noncomputable def mJ (f:SbPack.Around->List Thing->List Leaf)(aw:Int)(t:Thing)(x top:Int):List Leaf:=match t with
 | .glyph n _ _ _=>[.glyph n x top]
 | .anchor n=>[.anchor n x top]
 | .box c w h d z shift l=>f ⟨c,w,h,d,z,x+shift,top+h⟩ l
 | .rule w h d=>ruleLeaf x (top+h.getD 0) (w.getD aw) (h.getD 0) (d.getD 0)
 |_=>[]
noncomputable def aRf (f:SbPack.Around->List Thing->List Leaf)(ah ad:Int)(how:Nat)(t:Thing)(x y p s:Int):List Leaf:=match t with
 | .rule _ h d=>ruleLeaf (x+p) y s (h.getD ah) (d.getD ad)
 | .box c w h d z shift l=>(leaderPlaces how p s w).flatMap fun q=>lH f ah ad (.box c w h d z shift l) (x+q) y
 |_=>[]
noncomputable def aRg (f:SbPack.Around->List Thing->List Leaf)(aw:Int)(how:Nat)(t:Thing)(x top p s:Int):List Leaf:=match t with
 | .rule w _ _=>ruleLeaf x (top+p+s) (w.getD aw) s 0
 | .box c w h d z shift l=>(leaderPlaces how p s (h+d)).flatMap fun q=>mJ f aw (.box c w h d z shift l) x (top+q)
 |_=>[]
noncomputable def pY (f:SbPack.Around->List Thing->List Leaf)(a:SbPack.Around)(p s:Int)(t:Thing):List Leaf:=match t with
 | .leaders _ how u=>if a.column=true then aRg f a.w how u a.x (a.y-a.h) p s else aRf f a.h a.d how u a.x a.y p s
 |t=>if a.column=true then mJ f a.w t a.x (a.y-a.h+p) else lH f a.h a.d t (a.x+p) a.y
theorem bBp (f:SbPack.Around->List Thing->List Leaf)(a:SbPack.Around)(before upTo:List Thing)(t:Thing):thingLeaves f a before upTo t=pY f a (placeIn a.column a.s before) (placeIn a.column a.s upTo-placeIn a.column a.s before) t:=by
 obtain⟨c,w,h,d,z,x,y⟩:=a
 cases t with
 |leaders g how u=>
  cases u with
  |rule w' h' d'=>
   cases c with
   |true=>
    show (if 0<_ then ruleLeaf x (y-h+_+_) _ _ 0 else [])=ruleLeaf x (y-h+_+_) _ _ 0
    split
    .rfl
    .rename_i hn
     unfold ruleLeaf
     rw[if_neg]
     rintro⟨_,q⟩
     lia
   |false=>rfl
  |box c' w' h' d' z' sh l=>cases c <;>rfl
  |_=>cases c <;>rfl
 |_=>cases c <;>rfl
theorem QV {α β:Type}{f g:α->List β}: ∀l:List α,(∀x∈l,f x=g x)->l.flatMap f=l.flatMap g
 |[],_=>rfl
 |x::l,h=>by rw[List.flatMap_cons,List.flatMap_cons,h x (by simp),QV l fun y hy=>h y (by simp[hy])]
noncomputable def upTo (f:SbPack.Around->List Thing->List Leaf)(a:SbPack.Around)(l:List Thing):List Leaf:=l.zipIdx.flatMap fun(x:Thing×Nat)=>thingLeaves f a (l.take x.2) (l.take (x.2+1)) x.1
theorem aAe (f:SbPack.Around->List Thing->List Leaf)(a:SbPack.Around)(l:List Thing)(t:Thing):upTo f a (l++[t])=upTo f a l++pY f a (placeIn a.column a.s l) (placeIn a.column a.s (l++[t])-placeIn a.column a.s l) t:=by
 unfold upTo
 rw[List.zipIdx_append,List.flatMap_append]
 congr 1
 .refine QV _ ?_
  rintro⟨u,i⟩ hi
  have h1:i<l.length:=by
   have:=List.mem_zipIdx_iff_getElem?.mp hi
   exact(List.getElem?_eq_some_iff.mp this).1
  rw[List.take_append_of_le_length (by lia),List.take_append_of_le_length (by lia)]
 .rw[<- bBp]
  simp only[List.zipIdx,List.flatMap_cons,List.flatMap_nil,List.append_nil,Nat.zero_add]
  rw[List.take_left' rfl,List.take_of_length_le (by simp)]
theorem aB5 (n:Nat)(a:SbPack.Around)(l:List Thing):leavesIn (n+1) a l=upTo (leavesIn n) a l:=rfl
noncomputable def ln (l:List Leaf):Nat:=(l.flatMap SbSpec.leafNums).length
theorem aHp (a b:List Leaf):ln (a++b)=ln a+ln b:=by unfold ln;rw[List.flatMap_append,List.length_append]
theorem oJ (x:Leaf):ln [x]<=6:=by
 unfold ln
 cases x <;>simp[SbSpec.leafNums]
theorem uW (x y w h d:Int):ln (ruleLeaf x y w h d)<=6:=by
 unfold ruleLeaf
 split
 .exact oJ _
 .exact Nat.zero_le _
theorem YQ {α:Type}(f:α->List Leaf)(b:Nat): ∀l:List α,(∀x∈l,ln (f x)<=b)->ln (l.flatMap f)<=l.length*b
 |[],_=>Nat.zero_le _
 |x::l,h=>by
  rw[List.flatMap_cons,aHp,List.length_cons,Nat.succ_mul]
  have:=h x (by simp)
  have:=YQ f b l fun y hy=>h y (by simp[hy])
  lia
theorem aK7 (how:Nat)(p s w:Int):(leaderPlaces how p s w).length<=16:=by
 unfold leaderPlaces COPIES
 split
 .exact Nat.zero_le _
 .split
  .simp only[List.length_map,List.length_range]
   lia
  .split
   .simp only[List.length_map,List.length_range]
    lia
   .simp only[List.length_map,List.length_range]
    lia
theorem aEb (c:Bool)(w h d:Int)(s:SbThing.Setting)(sh:Int)(l:List Thing):szL l<szT (.box c w h d s sh l):=by
 unfold szT szL
 rw[M.rawOf,M.tl]
 simp only[M.jP,M.tlF,M.tlV,List.length_append,List.length_cons,List.length_nil]
 lia
theorem aK8 (g:Glue)(how:Nat)(t:Thing):szT t<szT (.leaders g how t):=by
 unfold szT
 rw[M.rawOf,M.tl]
 simp only[M.pF,M.jP,M.tlF,M.tlV,List.length_append,List.length_cons,List.length_nil,List.cons_append,List.nil_append]
 lia
theorem YS {f:SbPack.Around->List Thing->List Leaf}{a:SbPack.Around}{b:Nat}{q:Thing->Prop}(h: ∀p s t,q t->ln (pY f a p s t)<=b*szT t)(l:List Thing):(∀t∈l,q t)->ln (upTo f a l)<=b*szL l:=by
 refine snoc_ind (p:=fun l=>(∀t∈l,q t)->ln (upTo f a l)<=b*szL l) (fun _=>Nat.zero_le _) (fun l t ih k=>?_) l
 rw[aAe,aHp,iC,fO,wM,Nat.mul_add,Nat.add_zero]
 have:=ih fun u hu=>k u (by simp[hu])
 have:=h (placeIn a.column a.s l) (placeIn a.column a.s (l++[t])-placeIn a.column a.s l) t (k t (by simp))
 lia
theorem QW: ∀(n m:Nat)(t:Thing),plain n t=true->(∀ah ad x y,ln (lH (leavesIn m) ah ad t x y)<=6*szT t)/\ ∀aw x y,ln (mJ (leavesIn m) aw t x y)<=6*szT t:=by
 intro n
 induction n with
 |zero=>
  intro m t h
  have hp:=wN t
  cases t with
  |glyph a b c d=>exact⟨fun _ _ _ _=>Nat.le_trans (oJ _) (by lia),fun _ _ _=>Nat.le_trans (oJ _) (by lia)⟩
  |anchor a=>exact⟨fun _ _ _ _=>Nat.le_trans (oJ _) (by lia),fun _ _ _=>Nat.le_trans (oJ _) (by lia)⟩
  |rule a b c=>exact⟨fun _ _ _ _=>Nat.le_trans (uW _ _ _ _ _) (by lia),fun _ _ _=>Nat.le_trans (uW _ _ _ _ _) (by lia)⟩
  |box c w hh d s sh l=>cases h
  |_=>exact⟨fun _ _ _ _=>Nat.zero_le _,fun _ _ _=>Nat.zero_le _⟩
 |succ n ih=>
  intro m t h
  have hp:=wN t
  cases t with
  |glyph a b c d=>exact⟨fun _ _ _ _=>Nat.le_trans (oJ _) (by lia),fun _ _ _=>Nat.le_trans (oJ _) (by lia)⟩
  |anchor a=>exact⟨fun _ _ _ _=>Nat.le_trans (oJ _) (by lia),fun _ _ _=>Nat.le_trans (oJ _) (by lia)⟩
  |rule a b c=>exact⟨fun _ _ _ _=>Nat.le_trans (uW _ _ _ _ _) (by lia),fun _ _ _=>Nat.le_trans (uW _ _ _ _ _) (by lia)⟩
  |box c w hh d s sh l=>
   have h:l.all (plain n)=true:=h
   have hl: ∀t∈l,plain n t=true:=List.all_eq_true.mp h
   have hz:=aEb c w hh d s sh l
   have key: ∀a:SbPack.Around,ln (leavesIn m a l)<=6*szT (.box c w hh d s sh l):=fun a=>by
    cases m with
    |zero=>exact Nat.zero_le _
    |succ m=>
     rw[aB5]
     refine Nat.le_trans (YS (b:=6) (q:=fun t=>plain n t=true) (fun p s' u hu=>?_) l hl) (by lia)
     have:=ih m u hu
     cases u with
     |leaders g how v=>cases n <;>cases hu
     |_=>
      unfold pY
      simp only
      split
      .exact this.2 _ _ _
      .exact this.1 _ _ _ _
   exact⟨fun _ _ _ _=>key _,fun _ _ _=>key _⟩
  |_=>exact⟨fun _ _ _ _=>Nat.zero_le _,fun _ _ _=>Nat.zero_le _⟩
theorem vI: ∀(n m:Nat)(t:Thing),right n t=true->(∀ah ad x y,ln (lH (leavesIn m) ah ad t x y)<=96*szT t)/\(∀aw x y,ln (mJ (leavesIn m) aw t x y)<=96*szT t)/\ ∀a p s,ln (pY (leavesIn m) a p s t)<=96*szT t:=by
 have mid: ∀(m:Nat)(t:Thing),_root_.M.ZG t=false->(∀ah ad x y,ln (lH (leavesIn m) ah ad t x y)<=96*szT t)->(∀aw x y,ln (mJ (leavesIn m) aw t x y)<=96*szT t)-> ∀a p s,ln (pY (leavesIn m) a p s t)<=96*szT t:=by
  intro m t hn h1 h2 a p s
  cases t with
  |leaders g how u=>cases hn
  |_=>
   unfold pY
   simp only
   split
   .exact h2 _ _ _
   .exact h1 _ _ _ _
 intro n
 induction n with
 |zero=>
  intro m t h
  have hp:=wN t
  cases t with
  |glyph a b c d=>
   have h1: ∀ah ad x y,ln (lH (leavesIn m) ah ad (.glyph a b c d) x y)<=96*szT (.glyph a b c d):=fun _ _ _ _=>Nat.le_trans (oJ _) (by lia)
   have h2: ∀aw x y,ln (mJ (leavesIn m) aw (.glyph a b c d) x y)<=96*szT (.glyph a b c d):=fun _ _ _=>Nat.le_trans (oJ _) (by lia)
   exact⟨h1,h2,mid m _ rfl h1 h2⟩
  |anchor a=>
   have h1: ∀ah ad x y,ln (lH (leavesIn m) ah ad (.anchor a) x y)<=96*szT (.anchor a):=fun _ _ _ _=>Nat.le_trans (oJ _) (by lia)
   have h2: ∀aw x y,ln (mJ (leavesIn m) aw (.anchor a) x y)<=96*szT (.anchor a):=fun _ _ _=>Nat.le_trans (oJ _) (by lia)
   exact⟨h1,h2,mid m _ rfl h1 h2⟩
  |rule a b c=>
   have h1: ∀ah ad x y,ln (lH (leavesIn m) ah ad (.rule a b c) x y)<=96*szT (.rule a b c):=fun _ _ _ _=>Nat.le_trans (uW _ _ _ _ _) (by lia)
   have h2: ∀aw x y,ln (mJ (leavesIn m) aw (.rule a b c) x y)<=96*szT (.rule a b c):=fun _ _ _=>Nat.le_trans (uW _ _ _ _ _) (by lia)
   exact⟨h1,h2,mid m _ rfl h1 h2⟩
  |box c w hh d s sh l=>cases h
  |leaders g how u=>cases h
  |_=>exact⟨fun _ _ _ _=>Nat.zero_le _,fun _ _ _=>Nat.zero_le _,mid m _ rfl (fun _ _ _ _=>Nat.zero_le _) (fun _ _ _=>Nat.zero_le _)⟩
 |succ n ih=>
  intro m t h
  have hp:=wN t
  cases t with
  |glyph a b c d=>
   have h1: ∀ah ad x y,ln (lH (leavesIn m) ah ad (.glyph a b c d) x y)<=96*szT (.glyph a b c d):=fun _ _ _ _=>Nat.le_trans (oJ _) (by lia)
   have h2: ∀aw x y,ln (mJ (leavesIn m) aw (.glyph a b c d) x y)<=96*szT (.glyph a b c d):=fun _ _ _=>Nat.le_trans (oJ _) (by lia)
   exact⟨h1,h2,mid m _ rfl h1 h2⟩
  |anchor a=>
   have h1: ∀ah ad x y,ln (lH (leavesIn m) ah ad (.anchor a) x y)<=96*szT (.anchor a):=fun _ _ _ _=>Nat.le_trans (oJ _) (by lia)
   have h2: ∀aw x y,ln (mJ (leavesIn m) aw (.anchor a) x y)<=96*szT (.anchor a):=fun _ _ _=>Nat.le_trans (oJ _) (by lia)
   exact⟨h1,h2,mid m _ rfl h1 h2⟩
  |rule a b c=>
   have h1: ∀ah ad x y,ln (lH (leavesIn m) ah ad (.rule a b c) x y)<=96*szT (.rule a b c):=fun _ _ _ _=>Nat.le_trans (uW _ _ _ _ _) (by lia)
   have h2: ∀aw x y,ln (mJ (leavesIn m) aw (.rule a b c) x y)<=96*szT (.rule a b c):=fun _ _ _=>Nat.le_trans (uW _ _ _ _ _) (by lia)
   exact⟨h1,h2,mid m _ rfl h1 h2⟩
  |box c w hh d s sh l=>
   have hz:=aEb c w hh d s sh l
   simp only[right,Bool.and_eq_true] at h
   have hl: ∀t∈l,right n t=true:=List.all_eq_true.mp h.2.2.2.2.2
   have key: ∀a:SbPack.Around,ln (leavesIn m a l)<=96*szT (.box c w hh d s sh l):=fun a=>by
    cases m with
    |zero=>exact Nat.zero_le _
    |succ m=>
     rw[aB5]
     exact Nat.le_trans (YS (b:=96) (q:=fun t=>right n t=true) (fun p s' u hu=>(ih m u hu).2.2 a p s') l hl) (by lia)
   exact⟨fun _ _ _ _=>key _,fun _ _ _=>key _,mid m _ rfl (fun _ _ _ _=>key _) (fun _ _ _=>key _)⟩
  |leaders g how u=>
   have hz:=aK8 g how u
   simp only[right,Bool.and_eq_true] at h
   have hpl:=h.2.2.2.1
   refine⟨fun _ _ _ _=>Nat.zero_le _,fun _ _ _=>Nat.zero_le _,fun a p s=>?_⟩
   have pb:=QW n m u hpl
   have hu:=wN u
   unfold pY
   simp only
   split
   .cases u with
    |rule a' b' c'=>exact Nat.le_trans (uW _ _ _ _ _) (by lia)
    |box c w hh d s' sh l=>
     refine Nat.le_trans (YQ _ (6*szT (.box c w hh d s' sh l)) _ (fun q _=>pb.2 _ _ _)) ?_
     have:=aK7 how p s (hh+d)
     have h16:(leaderPlaces how p s (hh+d)).length*(6*szT (.box c w hh d s' sh l))<=16*(6*szT (.box c w hh d s' sh l)):=Nat.mul_le_mul_right _ this
     lia
    |_=>exact Nat.zero_le _
   .cases u with
    |rule a' b' c'=>exact Nat.le_trans (uW _ _ _ _ _) (by lia)
    |box c w hh d s' sh l=>
     refine Nat.le_trans (YQ _ (6*szT (.box c w hh d s' sh l)) _ (fun q _=>pb.1 _ _ _ _)) ?_
     have:=aK7 how p s w
     have h16:(leaderPlaces how p s w).length*(6*szT (.box c w hh d s' sh l))<=16*(6*szT (.box c w hh d s' sh l)):=Nat.mul_le_mul_right _ this
     lia
    |_=>exact Nat.zero_le _
  |_=>exact⟨fun _ _ _ _=>Nat.zero_le _,fun _ _ _=>Nat.zero_le _,mid m _ rfl (fun _ _ _ _=>Nat.zero_le _) (fun _ _ _=>Nat.zero_le _)⟩
end Pr
end
section
namespace Pr
open PySem PySem.Spec PyProof.Rows L2 SbThing SbPack
section
variable{P:Program}{w:World}{K:PySem.W.Frag}{mg:Str->Option Value}{base:Heap}(M:Md w K mg)
theorem aEc:bJ P w K mg base (CXE P w) 19 M.cQ.f M.cQ.fd j8 (aMo M.dM.C 8):=(YF M 8).1
noncomputable def aY1:Sp:=fun vs H Q _=>Ex3_ fun v t c=>And4_ (vs=[v,.int (flag c)]) (Th H v t) (right 8 t=true) (∀H',Same H H'->Q (.int (GZ c t)) H')
theorem aBq:bJ P w K mg base (CXE P w) 20 M.mC.f M.mC.fd rN aY1:=by
 refine M.mC.F.okE aBf (fun vs H Q E h=>?_) (fun cdv A outer s H vs Q E hr h=>?_)
 .obtain⟨_,_,_,rfl,_⟩:=h
  rfl
 .obtain⟨v,t,c,rfl,hT,hR,k⟩:=h
  have cs:=M.dM.c
  have n1:=M.iK
  refine⟨_,(aG (aP (lK (aW cT (pv 1) (dR rfl M.aAx) (bD _)) (bG (aJ (aEc M) (hr.mono (by walk_at "o")) rfl M.cQ.m M.cQ.k M.cQ.b .nil aC (aA (pv 0) aD)) rfl) (aJ (pB M) (hr.mono (by walk_at "o")) rfl M.cR.m M.cR.k M.cR.b .nil aC (aA (pv 0) aD))))),?_⟩
  try dsimp only[aFc]
  cases c with
  |true=>
   walk_at "go"
   exact⟨v,t,rfl,hT,k H (.refl H)⟩
  |false=>
   walk_at "go"
   refine⟨v,t,rfl,hT,hR,fun v' H1 s1 hs=>?_⟩
   obtain⟨p,dx,rfl,hp⟩:=hs
   walk_at "go"
   exact k H1 s1
structure StA (H0 H:Hp)(c:Bool)(s:SbThing.Setting)(vs:List V)(l:List Thing):Prop where
 len:vs.length=l.length
 at_: ∀i t,l[i]?=some t-> ∃a u,vs[i]?=some (.ref a)/\H a=some (.tup [u,.int (placeIn c s (l.take i)),.int (placeIn c s (l.take (i+1))-placeIn c s (l.take i))])/\Th H0 u t
theorem StA.snoc {H0 H H':Hp}{c:Bool}{s:SbThing.Setting}{vs:List V}{l:List Thing}{t:Thing}{a:Addr}{u:V}(h:StA H0 H c s vs l)(k: ∀b xs,H b=some (.tup xs)->H' b=some (.tup xs))
  (ha:H' a=some (.tup [u,.int (placeIn c s l),.int (placeIn c s (l++[t])-placeIn c s l)])) (hT:Th H0 u t):StA H0 H' c s (vs++[.ref a]) (l++[t]):=by
 refine⟨by rw[List.length_append,List.length_append,h.len];rfl,fun i t' hi=>?_⟩
 rcases Nat.lt_or_ge i l.length with z|z
 .rw[List.getElem?_append_left z] at hi
  obtain⟨a',u',e1,e2,e3⟩:=h.at_ i t' hi
  refine⟨a',u',by rw[List.getElem?_append_left (by rw[h.len];exact z)];exact e1,?_,e3⟩
  rw[List.take_append_of_le_length (by lia),List.take_append_of_le_length (by lia)]
  exact k _ _ e2
 .have hl:=(List.getElem?_eq_some_iff.mp hi).1
  rw[List.length_append,List.length_singleton] at hl
  have e:i=l.length:=by lia
  subst e
  rw[List.getElem?_append_right (Nat.le_refl _),Nat.sub_self] at hi
  cases hi
  refine⟨a,u,?_,?_,hT⟩
  .rw[List.getElem?_append_right (by rw[h.len];exact Nat.le_refl _),h.len,Nat.sub_self]
   rfl
  .rw[List.take_left' rfl,List.take_of_length_le (by rw[List.length_append];exact Nat.le_refl _)]
   exact ha
noncomputable def aPl:Sp:=fun vs H Q _=>Ex9_ fun H0 v c w' h d s sh l=>And7_ (vs=[v]) (Same H0 H) (Th H0 v (.box c w' h d s sh l)) (Rt (.box c w' h d s sh l)) (l.all (right 8)=true) (l.length<=2000) (∀a xs H',Same H H'->H' a=some (.lst xs)->StA H0 H' c s xs l->Q (.ref a) H')
theorem aB6:bJ P w K mg base (CXE P w) 21 M.pO.f M.pO.fd JD aPl:=by
 refine M.pO.F.okE jY (fun vs H Q E h=>?_) (fun cdv A outer s H vs Q E hr h=>?_)
 .obtain⟨_,_,_,_,_,_,_,_,_,rfl,_⟩:=h
  rfl
 .obtain⟨H0,v,c,w',h,d,s',sh,l,rfl,s0,hT,hRt,hR,hlen,k⟩:=h
  refine⟨_,(aB (bF (i:=1) jY.nd rfl (Or.inl rfl) (uX M.kY.ma (CV M) (hr.mono (by walk_at "o")) rfl M.fL.m M.kY.b .nil aC))
   (aB (bF (i:=2) jY.nd rfl (Or.inl rfl) aQ)
   (aB (bF (i:=3) jY.nd rfl (Or.inl rfl) aQ)
   (aB (bF (i:=4) jY.nd rfl (Or.inl rfl) (cX aD))
   (aB (lM PassesOwn.«leaving» rfl (nM (aZ (bO hr) (pv 0) aN (fun _ _=>rfl))) (cV (i:=5) jY.nd rfl (Or.inl rfl)) (aB (aTr (i:=2) jY.nd rfl (Or.inl rfl) (aJ (aBq M) (hr.mono (by walk_at "o")) rfl M.mC.m M.mC.k M.mC.b .nil aC (aA (pv 5) (aA (aZ (bO hr) (pv 0) aN (fun _ _=>rfl)) aD))) aI8)
   (aB (bQ (dN (pv 1) M.fL.c M.gC.m (u5 M) (hr.mono (by walk_at "o")) M.gC.b .nil aC (aA (pv 5) aD)))
   (aB (bF (i:=6) jY.nd rfl (Or.inl rfl) (cN fH (pv 2) (aJ (VN M) (hr.mono (by walk_at "o")) rfl M.iY.m M.iY.k M.iY.b .nil aC (aA (pv 0) (aA (pv 1) aD)))))
   (aB (bQ (vY PySem.F.plainAttrs_list PySem.F.slot_list_append PySem.F.type_list_append DP (pv 4) (aA (aU8 (aA (pv 5) (aA (pv 3) (aA (cN sZ (pv 6) (pv 3)) aD)))) aD)))
   (aG (bF (i:=3) jY.nd rfl (Or.inl rfl) (pv 6))))))))
   (aG (aP (pv 4)))))))),?_⟩
  try dsimp only[aFc]
  obtain⟨b0,kvs,rfl,hb0,u,hu,rfl⟩:=id hT.kv
  obtain⟨al,vl,rfl,hal0,hvl⟩:=hu
  have hb:=s0 _ _ hb0
  have hal:=s0 _ _ hal0
  walk_at "go"
  refine aVc fun p ga gb H1 np nga ngb s1 G1=>?_
  walk_at "go"
  refine⟨Nat.zero_le _,fun fl nfl=>?_⟩
  have s2:Same H (upd H1 fl (.lst [])):=s1.trans (aU nfl _)
  have nflH:H fl=none:=aHa s1 nfl
  have hb2:=s2 _ _ hb
  walk_at "go"
  refine vR ?_
  walk_at "go"
  refine⟨al,rfl,⟨_,SqL.of (s2 _ _ hal)⟩,aSq hal0 hvl (fun pre σ H'=>Same H H'/\VL M.fL.C H' p ga gb pre/\(∃xs,H' fl=some (.lst xs)/\StA H0 H' c s' xs pre)/\(fl≠ga/\fl≠gb)/\
   ∃x5 x6,σ=[some (.ref b0),some (.ref p),some (.int (GX c pre)),some (.int (placeIn c s' pre)),some (.ref fl),x5,x6]) ⟨s2,G1.mono (aU nfl _),⟨[],aH,rfl,fun i t hi=>by simp at hi⟩,⟨Ne.symm (aX G1.st nfl),Ne.symm (aX G1.sh nfl)⟩,none,none,?_⟩ (fun _ _ _ p=>s0.trans p.1) ?_ ?_⟩
  .rw[aN9]
   cases c <;>rfl
  .rintro pre t rest v σ H3 el hTt s3' ⟨s3,G3,⟨xs,hfl,St⟩,nfg,x5,x6,rfl⟩
   have hR8:right 8 t=true:=aV5 hR el
   have hb3:=s3 _ _ hb
   walk_at "go"
   refine⟨v,t,c,rfl,hTt.mono s3',hR8,fun H4 s4=>?_⟩
   obtain⟨dxp,hp4⟩:=(G3.mono s4).ob
   have hb4:=s4 _ _ hb3
   walk_at "go"
   refine⟨p,ga,gb,v,t,pre,rfl,G3.mono s4,hTt.mono (s3'.trans s4),⟨8,hR8⟩,fun H5 G5 o5=>?_⟩
   have s5:Same H H5:=o5.same (s3.trans s4) nga ngb
   have hb5:=s5 _ _ hb
   walk_at "go"
   refine⟨_,p,ga,gb,c,w',h,d,s',sh,l,pre++[t],rfl,hT.mono (s0.trans s5),hRt,G5,?_⟩
   walk_at "go"
   have hfl5:H5 fl=some (.lst xs):=o5 _ _ (s4 _ _ hfl) nfg.1 nfg.2
   refine⟨tyL hfl5,?_⟩
   walk_at "go"
   refine⟨by show 3<=sizeLine;decide,fun q nq=>?_⟩
   have s6:=aU nq (.tup [v,.int (placeIn c s' pre),.int (GX c pre+GZ c t+added s' (pre++[t])-placeIn c s' pre)])
   walk_at "go"
   refine Q8 (s6 _ _ hfl5) ?_ ?_
   .rw[St.len]
    have:pre.length<=l.length:=by rw[el,List.length_append];lia
    have:(10000000:Nat)<=sizeLine:=by decide
    lia
   walk_at "go"
   have epl:GX c pre+GZ c t+added s' (pre++[t])=placeIn c s' (pre++[t]):=by rw[VP,aEa]
   have nfq:fl≠q:=aX hfl5 nq
   have G7:VL M.fL.C (upd (upd H5 q (.tup [v,.int (placeIn c s' pre),.int (GX c pre+GZ c t+added s' (pre++[t])-placeIn c s' pre)])) fl (.lst (xs++[.ref q]))) p ga gb (pre++[t]):=by
    have G6:=G5.mono s6
    obtain⟨dx6,hp6⟩:=G6.ob
    exact⟨⟨dx6,(aM (jO hp6 (s6 _ _ hfl5) (by intro z;cases z))).trans hp6⟩,(aM (Ne.symm nfg.1)).trans G6.st,(aM (Ne.symm nfg.2)).trans G6.sh,G6.ne⟩
   refine⟨lV (s5.trans s6) nflH,G7,⟨_,aH,?_⟩,nfg,some v,some (.int (placeIn c s' (pre++[t]))),?_⟩
   .refine St.snoc (fun b ys hb'=>?_) ?_ hTt
    .have h5:H5 b=some (.tup ys):=o5 _ _ (s4 _ _ hb') (jO (s4 _ _ hb') (G3.mono s4).st (by intro z;cases z)) (jO (s4 _ _ hb') (G3.mono s4).sh (by intro z;cases z))
     rw[aM (jO h5 hfl5 (by intro z;cases z))]
     exact s6 _ _ h5
    .rw[aM (Ne.symm nfq),aH,epl]
   .rw[epl,aEa]
    rfl
  .rintro σ H3 ⟨s3,G3,⟨xs,hfl,St⟩,nfg,x5,x6,rfl⟩
   walk_at "go"
   exact k fl xs H3 s3 hfl St
noncomputable def aY2:Sp:=fun vs H Q _=>Ex2_ fun o(r:Int)=>And2_ (vs=[sdV o,.int r]) (Q (.int (o.getD r)) H)
theorem u9:bJ P w K mg base (CXE P w) 1 M.gU.f M.gU.fd RN aY2:=by
 refine M.gU.F.okE aOy (fun vs H Q E h=>?_) (fun cdv A outer s H vs Q E hr h=>?_)
 .obtain⟨o,r,rfl,_⟩:=h
  rfl
 .obtain⟨o,r,rfl,k⟩:=h
  refine⟨_,(aG (aP (lK (aW U5 (pv 0) qW (bD _)) (pv 1) (pv 0)))),?_⟩
  try dsimp only[aFc]
  walk_at "go"
  cases o with
  |none=>
   refine⟨rfl,?_⟩
   walk_at "go"
   exact k
  |some i=>
   refine⟨rfl,?_⟩
   walk_at "go"
   exact k
noncomputable def lv (l:List Leaf):List Int:=l.flatMap SbSpec.leafNums
noncomputable def aT6 (S:Addr):Sp:=fun vs H Q _=>Ex4_ fun(x y:Int) u s=>And3_ (vs=[.int x,.int y,u]) (M4 S H u s) (∀v H',Same H H'->NAt H' v (lv (ruleLeaf x y s.w s.h s.d))->Q v H')
theorem wO:bJ P w K mg base (CXE P w) 1 M.gO.f M.gO.fd yZ (aT6 M.dM.C):=by
 refine M.gO.F.okE aJ3 (fun vs H Q E h=>?_) (fun cdv A outer s H vs Q E hr h=>?_)
 .obtain⟨_,_,_,_,rfl,_⟩:=h
  rfl
 .obtain⟨x,y,u,z,rfl,⟨q,dq,rfl,hq⟩,k⟩:=h
  have c:=M.dM.c
  have n1:=M.iK
  have n2:=M.fU
  have n3:=M.kE
  refine⟨_,(aB (bR (PW.pt (aCf (aW KQ (bG (pv 2) rfl) aQ (bD _)) (U0 (aW KQ (cN fH (bG (pv 2) rfl) (bG (pv 2) rfl)) aQ (bD _))))) (aG (aP (cX aD))) bC)
   (aG (aP (cX (aA (dR rfl M.aAz) (aA (pv 0) (aA (pv 1) (aA (bG (pv 2) rfl) (aA (bG (pv 2) rfl) (aA (bG (pv 2) rfl) aD)))))))))),?_⟩
  try dsimp only[aFc]
  unfold ruleLeaf at k
  walk_at "go"
  refine eN (fun c1=>?_) (fun c1=>?_)
  .have c1:z.w<1:=of_decide_eq_true c1
   rw[if_neg (by lia)] at k
   walk_at "go"
   exact⟨Nat.zero_le _,fun p np=>k _ _ (aU np _) ⟨p,rfl,aH⟩⟩
  .have c1: ¬z.w<1:=fun e=>c1 (decide_eq_true e)
   walk_at "go"
   refine eN (fun c2=>?_) (fun c2=>?_)
   .have c2:z.h+z.d<1:=of_decide_eq_true c2
    rw[if_neg (by lia)] at k
    walk_at "go"
    exact⟨Nat.zero_le _,fun p np=>k _ _ (aU np _) ⟨p,rfl,aH⟩⟩
   .have c2: ¬z.h+z.d<1:=fun e=>c2 (decide_eq_true e)
    rw[if_pos (by lia)] at k
    walk_at "go"
    exact⟨by show 6<=sizeLine;decide,fun p np=>k _ _ (aU np _) ⟨p,rfl,aH⟩⟩
noncomputable def aW2 (t:Thing)(x y:Int):List Leaf:=match t with
 | .glyph n _ _ _=>[.glyph n x y]
 | .anchor n=>[.anchor n x y]
 |_=>[]
noncomputable def bBq:Sp:=fun vs H Q _=>Ex4_ fun u t(x y:Int)=>And3_ (vs=[u,.int x,.int y]) (Th H u t) (∀v H',Same H H'->NAt H' v (lv (aW2 t x y))->Q v H')
theorem TQ:bJ P w K mg base (CXE P w) 1 M.lB.f M.lB.fd wJ bBq:=by
 refine M.lB.F.okE aFr (fun vs H Q E h=>?_) (fun cdv A outer s H vs Q E hr h=>?_)
 .obtain⟨_,_,_,_,rfl,_⟩:=h
  rfl
 .obtain⟨u,t,x,y,rfl,hT,k⟩:=h
  refine⟨_,(aB (bR (aW cT (aZ (bO hr) (pv 0) aN (fun _ _=>rfl)) aN (bD _)) (aG (aP (cX (aA (dR rfl M.Y7) (aA (aZ (bO hr) (pv 0) aN (fun _ _=>rfl)) (aA (pv 1) (aA (pv 2) aD))))))) bC)
   (aB (bR (aW cT (aZ (bO hr) (pv 0) aN (fun _ _=>rfl)) aN (bD _)) (aG (aP (cX (aA (dR rfl M.T9) (aA (aZ (bO hr) (pv 0) aN (fun _ _=>rfl)) (aA (pv 1) (aA (pv 2) aD))))))) bC)
   (aG (aP (cX aD))))),?_⟩
  try dsimp only[aFc]
  obtain⟨a,kvs,rfl,ha,kv⟩:=hT.kv
  cases t with
  |glyph n w' h' d'=>
   obtain rfl:kvs=_:=kv
   walk_at "go"
   exact⟨by show 4<=sizeLine;decide,fun p np=>k _ _ (aU np _) ⟨p,rfl,aH⟩⟩
  |anchor n=>
   obtain rfl:kvs=_:=kv
   walk_at "go"
   exact⟨by show 4<=sizeLine;decide,fun p np=>k _ _ (aU np _) ⟨p,rfl,aH⟩⟩
  |_=>
   first|obtain rfl:kvs=_:=kv|obtain⟨_,_,rfl⟩:=kv|obtain⟨_,_,_,_,_,_,rfl⟩:=kv
   walk_at "go"
   exact⟨Nat.zero_le _,fun p np=>k _ _ (aU np _) ⟨p,rfl,aH⟩⟩
end
end Pr
end
section
namespace Pr
open PySem PySem.Spec PyProof.Rows L2 SbThing SbPack
section
variable{K:PySem.W.Frag}{σ:L2.St}{H:Hp}
theorem aRh {i j q:Nat}{b:Addr}{x y z:V}{QS:L2.St->Hp->Prop}(h:SqT K H b [x,y,z])(k:QS (((σ.set i (some x)).set j (some y)).set q (some z)) H):aWs K 3 (aAo (M7 i) (aAo (M7 j) (aAo (M7 q) aWr))) (.ref b) σ H QS:=⟨b,[x,y,z],rfl,h,rfl,x,[y,z],rfl,y,[z],rfl,z,[],rfl,rfl,k⟩
theorem aY3 {l b:Addr}{H:Hp}{xs ys:List Int}{Q:VK}(h:H l=some (.lst (xs.map V.int)))(hb:H b=some (.lst (ys.map V.int)))(hl:xs.length+ys.length<=10000000)(q:Q .non (upd H l (.lst ((xs++ys).map V.int)))):RB (.ref l) [.ref b] H Q:=by
 refine Y6 h hb ?_ ?_
 .rw[List.length_map,List.length_map]
  exact Nat.le_trans hl (by decide)
 .rw[<- List.map_append]
  exact q
end
theorem RW (a b:List Leaf):lv (a++b)=lv a++lv b:=by unfold lv;rw[List.flatMap_append]
theorem aW3 (a:List Leaf):(lv a).length=ln a:=rfl
section
variable{P:Program}{w:World}{K:PySem.W.Frag}{mg:Str->Option Value}{base:Heap}(M:Md w K mg)
noncomputable def pBL (n:Nat):Sp:=fun vs H Q _=>Ex10_ fun v c w' h d s sh l(x y:Int)=>And6_ (vs=[v,.int x,.int y]) (Th H v (.box c w' h d s sh l)) (right n (.box c w' h d s sh l)=true) (n<=8) (szT (.box c w' h d s sh l)<=2000) (∀v' H',Same H H'->NAt H' v' (lv (leavesIn (n+1) ⟨c,w',h,d,s,x,y⟩ l))->Q v' H')
noncomputable def pLR (n:Nat):Sp:=fun vs H Q _=>Ex12_ fun va ac aw ah ad as ash al v t(x y:Int)=>And8_ (vs=[va,v,.int x,.int y]) (Th H va (.box ac aw ah ad as ash al)) (Th H v t) (right n t=true) (_root_.M.ZG t=false) (n<=8) (szT t<=2000) (∀v' H',Same H H'->NAt H' v' (lv (lH (leavesIn (n+1)) ah ad t x y))->Q v' H')
noncomputable def pLC (n:Nat):Sp:=fun vs H Q _=>Ex12_ fun va ac aw ah ad as ash al v t(x y:Int)=>And8_ (vs=[va,v,.int x,.int y]) (Th H va (.box ac aw ah ad as ash al)) (Th H v t) (right n t=true) (_root_.M.ZG t=false) (n<=8) (szT t<=2000) (∀v' H',Same H H'->NAt H' v' (lv (mJ (leavesIn (n+1)) aw t x y))->Q v' H')
theorem aY4 (n:Nat)(GB:bJ P w K mg base (CXE P w) (21+4*n) M.cZ.f M.cZ.fd jZ (pBL n)):
  bJ P w K mg base (CXE P w) (22+4*n) M.dB.f M.dB.fd jQ (pLR n):=by
 refine mU (M.dB.F.okE (k:=21+4*n) oO (fun vs H Q E h=>?_) (fun cdv A outer s H vs Q E hr h=>?_)) (by lia)
 .obtain⟨_,_,_,_,_,_,_,_,_,_,_,_,rfl,_⟩:=h
  rfl
 .obtain⟨va,ac,aw,ah,ad,as,ash,al,v,t,x,y,rfl,hA,hT,hR,hL,hn,hz,k⟩:=h
  refine⟨_,(aB (bF (i:=4) oO.nd rfl (Or.inl rfl) (aZ (bO hr) (pv 1) aN (fun _ _=>rfl)))
   (aB (bR (aW cT (pv 4) aN (bD _)) (aB (bF (i:=5) oO.nd rfl (Or.inl rfl) (aJ (u9 M) (hr.mono (by walk_at "o")) rfl M.gU.m M.gU.k M.gU.b .nil aC (aA (aZ (bO hr) (pv 1) aN (fun _ _=>rfl)) (aA (aZ (bO hr) (pv 0) aN (fun _ _=>rfl)) aD))))
   (aB (bF (i:=6) oO.nd rfl (Or.inl rfl) (aJ (u9 M) (hr.mono (by walk_at "o")) rfl M.gU.m M.gU.k M.gU.b .nil aC (aA (aZ (bO hr) (pv 1) aN (fun _ _=>rfl)) (aA (aZ (bO hr) (pv 0) aN (fun _ _=>rfl)) aD))))
   (aG (aP (aJ (wO M) (hr.mono (by walk_at "o")) rfl M.gO.m M.gO.k M.gO.b .nil aC (aA (pv 2) (aA (pv 3) (aA (dX M.cC.ma (dJ M) (hr.mono (by walk_at "o")) rfl M.dM.m M.cC.b .nil aC (aA (aJ (eV M) (hr.mono (by walk_at "o")) rfl M.bT.m M.bT.k M.bT.b .nil aC (aA (aZ (bO hr) (pv 1) aN (fun _ _=>rfl)) aD)) (aA (pv 5) (aA (pv 6) aD)))) aD)))))))) bC)
   (aB (bR (aW cT (pv 4) aN (bD _)) (aG (aP (aJ GB (hr.mono (by walk_at "o")) rfl M.cZ.m M.cZ.k M.cZ.b .nil aC (aA (pv 1) (aA (pv 2) (aA (cN fH (pv 3) (aZ (bO hr) (pv 1) aN (fun _ _=>rfl))) aD)))))) bC)
   (aG (aP (aJ (TQ M) (hr.mono (by walk_at "o")) rfl M.lB.m M.lB.k M.lB.b .nil aC (aA (pv 1) (aA (pv 2) (aA (pv 3) aD))))))))),?_⟩
  try dsimp only[aFc]
  obtain⟨a,kvs,rfl,ha,kv⟩:=hT.kv
  obtain⟨a2,_,rfl,ha2,u2,hu2,rfl⟩:=hA.kv
  cases t with
  |rule w' h' d'=>
   obtain rfl:kvs=_:=kv
   walk_at "go"
   refine⟨h',ah,rfl,?_⟩
   walk_at "go"
   refine⟨d',ad,rfl,?_⟩
   walk_at "go"
   refine⟨w',rfl,?_⟩
   walk_at "go"
   refine GP fun p H1 s1 h1=>?_
   exact⟨x,y,_,_,rfl,h1,fun v' H2 s2 h2=>k v' H2 (s1.trans s2) h2⟩
  |box c w' h' d' s' sh l=>
   obtain⟨u,hu,rfl⟩:=kv
   walk_at "go"
   exact⟨_,c,w',h',d',s',sh,l,_,_,rfl,hT,hR,hn,hz,k⟩
  |leaders g how u=>cases hL
  |_=>
   first|obtain rfl:kvs=_:=kv|obtain⟨_,_,rfl⟩:=kv|obtain⟨_,_,_,_,_,_,rfl⟩:=kv
   walk_at "go"
   exact⟨_,_,x,y,rfl,hT,k⟩
theorem aY5 (n:Nat)(GB:bJ P w K mg base (CXE P w) (21+4*n) M.cZ.f M.cZ.fd jZ (pBL n)):
  bJ P w K mg base (CXE P w) (22+4*n) M.cM.f M.cM.fd gY (pLC n):=by
 refine mU (M.cM.F.okE (k:=21+4*n) p8 (fun vs H Q E h=>?_) (fun cdv A outer s H vs Q E hr h=>?_)) (by lia)
 .obtain⟨_,_,_,_,_,_,_,_,_,_,_,_,rfl,_⟩:=h
  rfl
 .obtain⟨va,ac,aw,ah,ad,as,ash,al,v,t,x,y,rfl,hA,hT,hR,hL,hn,hz,k⟩:=h
  have c:=M.dM.c
  have n2:=M.fU
  refine⟨_,(aB (bF (i:=4) p8.nd rfl (Or.inl rfl) (aZ (bO hr) (pv 1) aN (fun _ _=>rfl)))
   (aB (bR (aW cT (pv 4) aN (bD _)) (aB (bF (i:=5) p8.nd rfl (Or.inl rfl) (dX M.cC.ma (dJ M) (hr.mono (by walk_at "o")) rfl M.dM.m M.cC.b .nil aC (aA (aJ (u9 M) (hr.mono (by walk_at "o")) rfl M.gU.m M.gU.k M.gU.b .nil aC (aA (aZ (bO hr) (pv 1) aN (fun _ _=>rfl)) (aA (aZ (bO hr) (pv 0) aN (fun _ _=>rfl)) aD))) (aA (aJ (eV M) (hr.mono (by walk_at "o")) rfl M.bT.m M.bT.k M.bT.b .nil aC (aA (aZ (bO hr) (pv 1) aN (fun _ _=>rfl)) aD)) (aA (aJ (eV M) (hr.mono (by walk_at "o")) rfl M.bT.m M.bT.k M.bT.b .nil aC (aA (aZ (bO hr) (pv 1) aN (fun _ _=>rfl)) aD)) aD)))))
   (aG (aP (aJ (wO M) (hr.mono (by walk_at "o")) rfl M.gO.m M.gO.k M.gO.b .nil aC (aA (pv 2) (aA (cN fH (pv 3) (bG (pv 5) rfl)) (aA (pv 5) aD))))))) bC)
   (aB (bR (aW cT (pv 4) aN (bD _)) (aG (aP (aJ GB (hr.mono (by walk_at "o")) rfl M.cZ.m M.cZ.k M.cZ.b .nil aC (aA (pv 1) (aA (cN fH (pv 2) (aZ (bO hr) (pv 1) aN (fun _ _=>rfl))) (aA (cN fH (pv 3) (aZ (bO hr) (pv 1) aN (fun _ _=>rfl))) aD)))))) bC)
   (aG (aP (aJ (TQ M) (hr.mono (by walk_at "o")) rfl M.lB.m M.lB.k M.lB.b .nil aC (aA (pv 1) (aA (pv 2) (aA (pv 3) aD))))))))),?_⟩
  try dsimp only[aFc]
  obtain⟨a,kvs,rfl,ha,kv⟩:=hT.kv
  obtain⟨a2,_,rfl,ha2,u2,hu2,rfl⟩:=hA.kv
  cases t with
  |rule w' h' d'=>
   obtain rfl:kvs=_:=kv
   walk_at "go"
   refine⟨w',aw,rfl,?_⟩
   walk_at "go"
   refine⟨h',rfl,?_⟩
   walk_at "go"
   refine⟨d',rfl,?_⟩
   walk_at "go"
   refine GP fun p H1 s1 h1=>?_
   have h1':=h1
   obtain⟨p',dx,e,hp⟩:=h1'
   cases e
   walk_at "go"
   exact⟨x,_,_,_,rfl,h1,fun v' H2 s2 h2=>k v' H2 (s1.trans s2) h2⟩
  |box c w' h' d' s' sh l=>
   obtain⟨u,hu,rfl⟩:=kv
   walk_at "go"
   exact⟨_,c,w',h',d',s',sh,l,_,_,rfl,hT,hR,hn,hz,k⟩
  |leaders g how u=>cases hL
  |_=>
   first|obtain rfl:kvs=_:=kv|obtain⟨_,_,rfl⟩:=kv|obtain⟨_,_,_,_,_,_,rfl⟩:=kv
   walk_at "go"
   exact⟨_,_,x,y,rfl,hT,k⟩
noncomputable def aRi (p s:Int):Prop:= -(2^150)<s/\s<2^150/\ -(2^150)<p/\p<2^150
noncomputable def pDR (n:Nat):Sp:=fun vs H Q _=>Ex16_ fun va ac aw ah ad as ash al v g how u(x y p s:Int)=>And8_ (vs=[va,v,.int x,.int y,.int p,.int s]) (Th H va (.box ac aw ah ad as ash al)) (Th H v (.leaders g how u)) (right n (.leaders g how u)=true) (n<=8) (szT (.leaders g how u)<=2000) (aRi p s) (∀v' H',Same H H'->NAt H' v' (lv (aRf (leavesIn (n+1)) ah ad how u x y p s))->Q v' H')
noncomputable def pDC (n:Nat):Sp:=fun vs H Q _=>Ex16_ fun va ac aw ah ad as ash al v g how u(x y p s:Int)=>And8_ (vs=[va,v,.int x,.int y,.int p,.int s]) (Th H va (.box ac aw ah ad as ash al)) (Th H v (.leaders g how u)) (right n (.leaders g how u)=true) (n<=8) (szT (.leaders g how u)<=2000) (aRi p s) (∀v' H',Same H H'->NAt H' v' (lv (aRg (leavesIn (n+1)) aw how u x y p s))->Q v' H')
theorem aRj {n:Nat}{g:Glue}{how:Nat}{u:Thing}(h:right n (.leaders g how u)=true):how<=2/\repeated u=true/\right n u=true/\plain n u=true:=by
 cases n with
 |zero=>cases h
 |succ n=>
  simp only[right,Bool.and_eq_true,decide_eq_true_eq] at h
  exact⟨h.2.1,h.2.2.1,aN8 _ _ h.2.2.2.2,aN7 _ _ h.2.2.2.1⟩
theorem aW4 {n:Nat}{c:Bool}{w' h d:Int}{s:SbThing.Setting}{sh:Int}{l:List Thing}(hR:right n (.box c w' h d s sh l)=true):(-1073741823<=w'/\w'<=1073741823)/\(-1073741823<=h/\h<=1073741823)/\(-1073741823<=d/\d<=1073741823):=by
 cases n with
 |zero=>cases hR
 |succ n=>
  simp only[right,Bool.and_eq_true] at hR
  exact⟨d9 hR.1,d9 hR.2.1,d9 hR.2.2.1⟩
theorem aY6 (n:Nat)(GL:bJ P w K mg base (CXE P w) (22+4*n) M.dB.f M.dB.fd jQ (pLR n)):
  bJ P w K mg base (CXE P w) (23+4*n) M.gK.f M.gK.fd lR (pDR n):=by
 refine mU (M.gK.F.okE (k:=22+4*n) iV (fun vs H Q E h=>?_) (fun cdv A outer s H vs Q E hr h=>?_)) (by lia)
 .obtain⟨_,_,_,_,_,_,_,_,_,_,_,_,_,_,_,_,rfl,_⟩:=h
  rfl
 .obtain⟨va,ac,aw,ah,ad,as,ash,al,v,g,how,u,x,y,p,sp,rfl,hA,hT,hR,hn,hz,⟨b1,b2,b3,b4⟩,k⟩:=h
  refine⟨_,(aB (bF (i:=6) iV.nd rfl (Or.inl rfl) (aZ (bO hr) (pv 1) aN (fun _ _=>rfl)))
   (aB (bR (aW cT (aZ (bO hr) (pv 6) aN (fun _ _=>rfl)) aN (bD _)) (aB (bF (i:=7) iV.nd rfl (Or.inl rfl) (aJ (u9 M) (hr.mono (by walk_at "o")) rfl M.gU.m M.gU.k M.gU.b .nil aC (aA (aZ (bO hr) (pv 6) aN (fun _ _=>rfl)) (aA (aZ (bO hr) (pv 0) aN (fun _ _=>rfl)) aD))))
   (aB (bF (i:=8) iV.nd rfl (Or.inl rfl) (aJ (u9 M) (hr.mono (by walk_at "o")) rfl M.gU.m M.gU.k M.gU.b .nil aC (aA (aZ (bO hr) (pv 6) aN (fun _ _=>rfl)) (aA (aZ (bO hr) (pv 0) aN (fun _ _=>rfl)) aD))))
   (aG (aP (aJ (wO M) (hr.mono (by walk_at "o")) rfl M.gO.m M.gO.k M.gO.b .nil aC (aA (cN fH (pv 2) (pv 4)) (aA (pv 3) (aA (dX M.cC.ma (dJ M) (hr.mono (by walk_at "o")) rfl M.dM.m M.cC.b .nil aC (aA (pv 5) (aA (pv 7) (aA (pv 8) aD)))) aD)))))))) bC)
   (aB (bF (i:=9) iV.nd rfl (Or.inl rfl) (cX aD))
   (aB (lM PassesOwn.«leaving» rfl (nM (aJ (QT M) (hr.mono (by walk_at "o")) rfl M.jE.m M.jE.k M.jE.b .nil aC (aA (aZ (bO hr) (pv 1) aN (fun _ _=>rfl)) (aA (aZ (bO hr) (pv 6) aN (fun _ _=>rfl)) (aA (pv 4) (aA (pv 5) aD)))))) (cV (i:=10) iV.nd rfl (Or.inl rfl)) (aG (bQ (vY PySem.F.plainAttrs_list PySem.F.slot_list_extend PySem.F.type_list_extend mV (pv 9) (aA (aJ GL (hr.mono (by walk_at "o")) rfl M.dB.m M.dB.k M.dB.b .nil aC (aA (pv 0) (aA (pv 6) (aA (cN fH (pv 2) (pv 10)) (aA (pv 3) aD))))) aD)))))
   (aG (aP (pv 9))))))),?_⟩
  try dsimp only[aFc]
  obtain⟨h2,hrep,hRu,hPu⟩:=aRj hR
  have hzu:=aK8 g how u
  obtain⟨a,kvs,rfl,ha,vu,hu,rfl⟩:=hT.kv
  have hA':=hA
  obtain⟨a2,_,rfl,ha2,u2,hu2,rfl⟩:=hA'.kv
  obtain⟨a3,kvs3,rfl,ha3,kv3⟩:=hu.kv
  cases u with
  |rule w' h' d'=>
   obtain rfl:kvs3=_:=kv3
   walk_at "go"
   refine⟨h',ah,rfl,?_⟩
   walk_at "go"
   refine⟨d',ad,rfl,?_⟩
   walk_at "go"
   refine GP fun q H1 s1 h1=>?_
   exact⟨_,y,_,_,rfl,h1,fun v' H2 s2 h2=>k v' H2 (s1.trans s2) h2⟩
  |box c w' h' d' s' sh l=>
   obtain⟨u3,hu3,rfl⟩:=kv3
   obtain⟨bw,bh,bd⟩:=aW4 hRu
   walk_at "go"
   refine⟨Nat.zero_le _,fun nl nnl=>?_⟩
   have s1:=aU nnl (.lst [])
   have ha1:=s1 _ _ ha
   have ha31:=s1 _ _ ha3
   walk_at "go"
   refine vR ?_
   walk_at "go"
   refine⟨how,w',p,sp,rfl,h2,by lia,by lia,b1,b2,b3,b4,fun v' H2 s2 hN=>?_⟩
   obtain⟨cp,rfl,hcp⟩:=hN
   have hlp:=aK7 how p sp w'
   refine⟨cp,rfl,⟨_,SqL.of hcp⟩,?_⟩
   refine aSr (vs:=(leaderPlaces how p sp w').map V.int) (fun i σ H'=>Same H H'/\H' cp=some (.lst ((leaderPlaces how p sp w').map V.int))/\H' nl=some (.lst ((lv (((leaderPlaces how p sp w').take i).flatMap fun q=>lH (leavesIn (n+1)) ah ad (.box c w' h' d' s' sh l) (x+q) y)).map V.int))/\
    ∃x7 x8 x10,σ=[some (.ref a2),some (.ref a),some (.int x),some (.int y),some (.int p),some (.int sp),some (.ref a3),x7,x8,some (.ref nl),x10]) ⟨s1.trans s2,hcp,s2 _ _ aH,none,none,none,rfl⟩ (fun i σ H' p=>SqL.of p.2.1) ?_ ?_
   .rintro i v σ H3 hi ⟨s3,hc3,hn3,x7,x8,x10,rfl⟩
    rw[List.getElem?_map] at hi
    obtain⟨q,hq,rfl⟩:=Option.map_eq_some_iff.mp hi
    walk_at "go"
    refine⟨tyL hn3,?_⟩
    walk_at "go"
    refine⟨_,ac,aw,ah,ad,as,ash,al,_,_,_,_,rfl,hA.mono s3,hu.mono s3,hRu,rfl,hn,by lia,fun v' H4 s4 hN=>?_⟩
    obtain⟨c4,rfl,hc4⟩:=hN
    walk_at "go"
    have pb:=QW n (n+1) _ hPu
    have l1:(lv (((leaderPlaces how p sp w').take i).flatMap fun q=>lH (leavesIn (n+1)) ah ad (.box c w' h' d' s' sh l) (x+q) y)).length<=16*(6*szT (.box c w' h' d' s' sh l)):=by
     refine Nat.le_trans (YQ _ (6*szT (.box c w' h' d' s' sh l)) _ (fun q _=>pb.1 _ _ _ _)) (Nat.mul_le_mul_right _ ?_)
     rw[List.length_take]
     lia
    have l2:(lv (lH (leavesIn (n+1)) ah ad (.box c w' h' d' s' sh l) (x+q) y)).length<=6*szT (.box c w' h' d' s' sh l):=pb.1 ah ad (x+q) y
    have et:(leaderPlaces how p sp w').take (i+1)=(leaderPlaces how p sp w').take i++[q]:=by rw[List.take_add_one,hq];rfl
    refine aY3 (s4 _ _ hn3) hc4 (by lia) ?_
    walk_at "go"
    have ncp:cp≠nl:=jO hcp (s2 nl _ aH) (fun z=>by
     injection z with z
     rw[List.map_eq_nil_iff] at z
     rw[z] at hq
     cases hq)
    refine⟨lV (s3.trans s4) nnl,?_,?_,x7,x8,some (.int q),rfl⟩
    .rw[aM ncp]
     exact s4 _ _ hc3
    .rw[aH,et,List.flatMap_append,RW]
     simp only[List.flatMap_cons,List.flatMap_nil,List.append_nil]
   .rintro σ H3 ⟨s3,hc3,hn3,x7,x8,x10,rfl⟩
    rw[List.length_map,List.take_length] at hn3
    walk_at "go"
    exact k _ H3 s3 ⟨nl,rfl,hn3⟩
  |_=>cases hrep
theorem aY7 (n:Nat)(GL:bJ P w K mg base (CXE P w) (22+4*n) M.cM.f M.cM.fd gY (pLC n)):
  bJ P w K mg base (CXE P w) (23+4*n) M.dY.f M.dY.fd j4 (pDC n):=by
 refine mU (M.dY.F.okE (k:=22+4*n) iJ (fun vs H Q E h=>?_) (fun cdv A outer s H vs Q E hr h=>?_)) (by lia)
 .obtain⟨_,_,_,_,_,_,_,_,_,_,_,_,_,_,_,_,rfl,_⟩:=h
  rfl
 .obtain⟨va,ac,aw,ah,ad,as,ash,al,v,g,how,u,x,y,p,sp,rfl,hA,hT,hR,hn,hz,⟨b1,b2,b3,b4⟩,k⟩:=h
  refine⟨_,(aB (bF (i:=6) iJ.nd rfl (Or.inl rfl) (aZ (bO hr) (pv 1) aN (fun _ _=>rfl)))
   (aB (bR (aW cT (aZ (bO hr) (pv 6) aN (fun _ _=>rfl)) aN (bD _)) (aB (bF (i:=7) iJ.nd rfl (Or.inl rfl) (aJ (u9 M) (hr.mono (by walk_at "o")) rfl M.gU.m M.gU.k M.gU.b .nil aC (aA (aZ (bO hr) (pv 6) aN (fun _ _=>rfl)) (aA (aZ (bO hr) (pv 0) aN (fun _ _=>rfl)) aD))))
   (aG (aP (aJ (wO M) (hr.mono (by walk_at "o")) rfl M.gO.m M.gO.k M.gO.b .nil aC (aA (pv 2) (aA (cN fH (cN fH (pv 3) (pv 4)) (pv 5)) (aA (dX M.cC.ma (dJ M) (hr.mono (by walk_at "o")) rfl M.dM.m M.cC.b .nil aC (aA (pv 7) (aA (pv 5) (aA aQ aD)))) aD))))))) bC)
   (aB (bF (i:=8) iJ.nd rfl (Or.inl rfl) (cX aD))
   (aB (lM PassesOwn.«leaving» rfl (nM (aJ (QT M) (hr.mono (by walk_at "o")) rfl M.jE.m M.jE.k M.jE.b .nil aC (aA (aZ (bO hr) (pv 1) aN (fun _ _=>rfl)) (aA (aJ (pB M) (hr.mono (by walk_at "o")) rfl M.cR.m M.cR.k M.cR.b .nil aC (aA (pv 6) aD)) (aA (pv 4) (aA (pv 5) aD)))))) (cV (i:=9) iJ.nd rfl (Or.inl rfl)) (aG (bQ (vY PySem.F.plainAttrs_list PySem.F.slot_list_extend PySem.F.type_list_extend mV (pv 8) (aA (aJ GL (hr.mono (by walk_at "o")) rfl M.cM.m M.cM.k M.cM.b .nil aC (aA (pv 0) (aA (pv 6) (aA (pv 2) (aA (cN fH (pv 3) (pv 9)) aD))))) aD)))))
   (aG (aP (pv 8))))))),?_⟩
  try dsimp only[aFc]
  obtain⟨h2,hrep,hRu,hPu⟩:=aRj hR
  have hzu:=aK8 g how u
  obtain⟨a,kvs,rfl,ha,vu,hu,rfl⟩:=hT.kv
  have hA':=hA
  obtain⟨a2,_,rfl,ha2,u2,hu2,rfl⟩:=hA'.kv
  obtain⟨a3,kvs3,rfl,ha3,kv3⟩:=hu.kv
  cases u with
  |rule w' h' d'=>
   obtain rfl:kvs3=_:=kv3
   walk_at "go"
   refine⟨w',aw,rfl,?_⟩
   walk_at "go"
   refine GP fun q H1 s1 h1=>?_
   exact⟨x,_,_,_,rfl,h1,fun v' H2 s2 h2=>k v' H2 (s1.trans s2) h2⟩
  |box c w' h' d' s' sh l=>
   obtain⟨u3,hu3,rfl⟩:=kv3
   obtain⟨bw,bh,bd⟩:=aW4 hRu
   walk_at "go"
   refine⟨Nat.zero_le _,fun nl nnl=>?_⟩
   have s1:=aU nnl (.lst [])
   have ha1:=s1 _ _ ha
   have ha31:=s1 _ _ ha3
   walk_at "go"
   refine vR ?_
   walk_at "go"
   refine⟨_,_,rfl,hu.mono s1,?_⟩
   walk_at "go"
   rw[show inColumn (.box c w' h' d' s' sh l)=h'+d' from rfl]
   refine⟨how,h'+d',p,sp,rfl,h2,by lia,by lia,b1,b2,b3,b4,fun v' H2 s2 hN=>?_⟩
   obtain⟨cp,rfl,hcp⟩:=hN
   have hlp:=aK7 how p sp (h'+d')
   refine⟨cp,rfl,⟨_,SqL.of hcp⟩,?_⟩
   refine aSr (vs:=(leaderPlaces how p sp (h'+d')).map V.int) (fun i σ H'=>Same H H'/\H' cp=some (.lst ((leaderPlaces how p sp (h'+d')).map V.int))/\H' nl=some (.lst ((lv (((leaderPlaces how p sp (h'+d')).take i).flatMap fun q=>mJ (leavesIn (n+1)) aw (.box c w' h' d' s' sh l) x (y+q))).map V.int))/\
    ∃x7 x10,σ=[some (.ref a2),some (.ref a),some (.int x),some (.int y),some (.int p),some (.int sp),some (.ref a3),x7,some (.ref nl),x10]) ⟨s1.trans s2,hcp,s2 _ _ aH,none,none,rfl⟩ (fun i σ H' p=>SqL.of p.2.1) ?_ ?_
   .rintro i v σ H3 hi ⟨s3,hc3,hn3,x7,x10,rfl⟩
    rw[List.getElem?_map] at hi
    obtain⟨q,hq,rfl⟩:=Option.map_eq_some_iff.mp hi
    walk_at "go"
    refine⟨tyL hn3,?_⟩
    walk_at "go"
    refine⟨_,ac,aw,ah,ad,as,ash,al,_,_,_,_,rfl,hA.mono s3,hu.mono s3,hRu,rfl,hn,by lia,fun v' H4 s4 hN=>?_⟩
    obtain⟨c4,rfl,hc4⟩:=hN
    walk_at "go"
    have pb:=QW n (n+1) _ hPu
    have l1:(lv (((leaderPlaces how p sp (h'+d')).take i).flatMap fun q=>mJ (leavesIn (n+1)) aw (.box c w' h' d' s' sh l) x (y+q))).length<=16*(6*szT (.box c w' h' d' s' sh l)):=by
     refine Nat.le_trans (YQ _ (6*szT (.box c w' h' d' s' sh l)) _ (fun q _=>pb.2 _ _ _)) (Nat.mul_le_mul_right _ ?_)
     rw[List.length_take]
     lia
    have l2:(lv (mJ (leavesIn (n+1)) aw (.box c w' h' d' s' sh l) x (y+q))).length<=6*szT (.box c w' h' d' s' sh l):=pb.2 aw x (y+q)
    have et:(leaderPlaces how p sp (h'+d')).take (i+1)=(leaderPlaces how p sp (h'+d')).take i++[q]:=by rw[List.take_add_one,hq];rfl
    refine aY3 (s4 _ _ hn3) hc4 (by lia) ?_
    walk_at "go"
    have ncp:cp≠nl:=jO hcp (s2 nl _ aH) (fun z=>by
     injection z with z
     rw[List.map_eq_nil_iff] at z
     rw[z] at hq
     cases hq)
    refine⟨lV (s3.trans s4) nnl,?_,?_,x7,some (.int q),rfl⟩
    .rw[aM ncp]
     exact s4 _ _ hc3
    .rw[aH,et,List.flatMap_append,RW]
     simp only[List.flatMap_cons,List.flatMap_nil,List.append_nil]
   .rintro σ H3 ⟨s3,hc3,hn3,x7,x10,rfl⟩
    rw[List.length_map,List.take_length] at hn3
    walk_at "go"
    exact k _ H3 s3 ⟨nl,rfl,hn3⟩
  |_=>cases hrep
end
end Pr
end
section
namespace Pr
open PySem PySem.Spec PyProof.Rows L2 SbThing SbPack
section
variable{P:Program}{w:World}{K:PySem.W.Frag}{mg:Str->Option Value}{base:Heap}(M:Md w K mg)
noncomputable def pRL (n:Nat):Sp:=fun vs H Q _=>Ex9_ fun v w' h d s sh l(x y:Int)=>And6_ (vs=[v,.int x,.int y]) (Th H v (.box false w' h d s sh l)) (right (n+1) (.box false w' h d s sh l)=true) (n+1<=8) (szT (.box false w' h d s sh l)<=2000) (∀v' H',Same H H'->NAt H' v' (lv (upTo (leavesIn (n+1)) ⟨false,w',h,d,s,x,y⟩ l))->Q v' H')
noncomputable def pCL (n:Nat):Sp:=fun vs H Q _=>Ex9_ fun v w' h d s sh l(x y:Int)=>And6_ (vs=[v,.int x,.int (y-h)]) (Th H v (.box true w' h d s sh l)) (right (n+1) (.box true w' h d s sh l)=true) (n+1<=8) (szT (.box true w' h d s sh l)<=2000) (∀v' H',Same H H'->NAt H' v' (lv (upTo (leavesIn (n+1)) ⟨true,w',h,d,s,x,y⟩ l))->Q v' H')
theorem aW5 {n:Nat}{c:Bool}{w' h d:Int}{s:SbThing.Setting}{sh:Int}{l:List Thing}(hR:right (n+1) (.box c w' h d s sh l)=true)(hn:n+1<=8)(hz:szT (.box c w' h d s sh l)<=2000):l.all (right n)=true/\l.all (right 8)=true/\Bd l/\l.length<=2000:=by
 have h1:=aEb c w' h d s sh l
 simp only[right,Bool.and_eq_true] at hR
 have ha:=hR.2.2.2.2.2
 have hb:Bd l:=⟨aDy ha,by lia⟩
 exact⟨ha,all_le (by lia) ha,hb,hb.len⟩
theorem aEd {l:List Thing}{i:Nat}{t:Thing}(h:l[i]?=some t):szT t<=szL l:=by
 obtain⟨e,_⟩:=iQ h
 rw[e,iC,fO]
 lia
theorem aY8 (n:Nat)(GL:bJ P w K mg base (CXE P w) (22+4*n) M.dB.f M.dB.fd jQ (pLR n))(GD:bJ P w K mg base (CXE P w) (23+4*n) M.gK.f M.gK.fd lR (pDR n)):
  bJ P w K mg base (CXE P w) (24+4*n) M.mD.f M.mD.fd rO (pRL n):=by
 refine mU (M.mD.F.okE (k:=23+4*n) pI (fun vs H Q E h=>?_) (fun cdv A outer s H vs Q E hr h=>?_)) (by lia)
 .obtain⟨_,_,_,_,_,_,_,_,_,rfl,_⟩:=h
  rfl
 .obtain⟨v,w',h,d,s',sh,l,x,y,rfl,hT,hR,hn,hz,k⟩:=h
  refine⟨_,(aB (bF (i:=3) pI.nd rfl (Or.inl rfl) (cX aD))
   (aB (lM PassesOwn.«leaving» rfl (nM (aJ (aB6 M) (hr.mono (by walk_at "o")) rfl M.pO.m M.pO.k M.pO.b .nil aC (aA (pv 0) aD))) (M8 (n:=3) rfl (gW (cV (i:=4) pI.nd rfl (Or.inl rfl)) (gW (cV (i:=5) pI.nd rfl (Or.inl rfl)) (gW (cV (i:=6) pI.nd rfl (Or.inl rfl)) yM)))) (aG (bR (aW cT (aZ (bO hr) (pv 4) aN (fun _ _=>rfl)) aN (bD _)) (aG (bQ (vY PySem.F.plainAttrs_list PySem.F.slot_list_extend PySem.F.type_list_extend mV (pv 3) (aA (aJ GD (hr.mono (by walk_at "o")) rfl M.gK.m M.gK.k M.gK.b .nil aC (aA (pv 0) (aA (pv 4) (aA (pv 1) (aA (pv 2) (aA (pv 5) (aA (pv 6) aD))))))) aD)))) (aG (bQ (vY PySem.F.plainAttrs_list PySem.F.slot_list_extend PySem.F.type_list_extend mV (pv 3) (aA (aJ GL (hr.mono (by walk_at "o")) rfl M.dB.m M.dB.k M.dB.b .nil aC (aA (pv 0) (aA (pv 4) (aA (cN fH (pv 1) (pv 5)) (aA (pv 2) aD))))) aD)))))))
   (aG (aP (pv 3))))),?_⟩
  try dsimp only[aFc]
  obtain⟨hRn,hR8,hB,hlen⟩:=aW5 hR hn hz
  have hzl:=aEb false w' h d s' sh l
  obtain⟨o1,o2,o3,o4,o5⟩:=aP9 ⟨_,hR⟩
  have hT':=hT
  obtain⟨b0,kvs0,rfl,hb0,_⟩:=hT'.kv
  walk_at "go"
  refine⟨Nat.zero_le _,fun nl nnl=>?_⟩
  have s1:=aU nnl (.lst [])
  walk_at "go"
  refine vR ?_
  walk_at "go"
  refine⟨H,_,false,w',h,d,s',sh,l,rfl,s1,hT,⟨_,hR⟩,hR8,hlen,fun sa xs H2 s2 hsa St=>?_⟩
  refine⟨sa,rfl,⟨_,SqL.of hsa⟩,?_⟩
  have nnl2: ∀i t,l[i]?=some t->sa≠nl:=fun i t hi=>jO hsa (s2 nl _ aH) (fun z=>by
   injection z with z
   obtain⟨_,_,e,_⟩:=St.at_ i t hi
   rw[z] at e
   simp at e)
  refine aSr (vs:=xs) (fun i σ H'=>Same H H'/\(∀b o,H2 b=some o->b≠nl->H' b=some o)/\H' nl=some (.lst ((lv (upTo (leavesIn (n+1)) ⟨false,w',h,d,s',x,y⟩ (l.take i))).map V.int))/\(H' sa=some (.lst xs))/\
   ∃x4 x5 x6,σ=[some (.ref b0),some (.int x),some (.int y),some (.ref nl),x4,x5,x6]) ⟨s1.trans s2,fun b o e _=>e,s2 _ _ aH,hsa,none,none,none,rfl⟩ (fun i σ H' p=>SqL.of p.2.2.2.1) ?_ ?_
  .rintro i v σ H3 hi ⟨s3,o3',hn3,hs3,x4,x5,x6,rfl⟩
   have hil:i<l.length:=by rw[<- St.len];exact(List.getElem?_eq_some_iff.mp hi).1
   have ht:=List.getElem?_eq_getElem hil
   generalize l[i]=t at ht
   obtain⟨ta,u,e1,e2,e3⟩:=St.at_ i t ht
   rw[hi] at e1
   cases e1
   have e2':H2 ta=some _:=e2
   have nta:ta≠nl:=jO e2 (s2 nl _ aH) (by intro z;cases z)
   have e4:=o3' _ _ e2 nta
   have hRt:right n t=true:=List.all_eq_true.mp hRn t (List.mem_of_getElem? ht)
   have hzt:=aEd ht
   have hu3:Th H3 u t:=e3.mono s3
   obtain⟨ua,ukvs,rfl,hua,ukv⟩:=hu3.kv
   have et:l.take (i+1)=l.take i++[t]:=(iQ ht).2
   have bA:=zR (c:=false) (hB.take i) (oH (fun _ h=>h) (by rw[List.all_eq_true];exact fun z hz=>List.all_eq_true.mp hR8 z (List.mem_of_mem_take hz))) o1 o2 o3 o4
   have bB:=zR (c:=false) (hB.take (i+1)) (oH (fun _ h=>h) (by rw[List.all_eq_true];exact fun z hz=>List.all_eq_true.mp hR8 z (List.mem_of_mem_take hz))) o1 o2 o3 o4
   have lA:(lv (upTo (leavesIn (n+1)) ⟨false,w',h,d,s',x,y⟩ (l.take i))).length<=96*szL (l.take i):=YS (b:=96) (q:=fun t=>right n t=true) (fun p s u hu=>(vI n (n+1) u hu).2.2 _ p s) _ (fun z hz=>List.all_eq_true.mp hRn z (List.mem_of_mem_take hz))
   have lA2:szL (l.take i)<=2000:=(hB.take i).sz
   have es:=aAe (leavesIn (n+1)) ⟨false,w',h,d,s',x,y⟩ (l.take i) t
   rw[<- et] at es
   have sn: ∀ys H4,Same H3 H4->(∃c4,H4 c4=some (.lst (ys.map V.int))/\True)->ys=lv (pY (leavesIn (n+1)) ⟨false,w',h,d,s',x,y⟩ (placeIn false s' (l.take i)) (placeIn false s' (l.take (i+1))-placeIn false s' (l.take i)) t)->ys.length<=192000:=fun ys H4 _ _ e=>by
    rw[e]
    have:=(vI n (n+1) t hRt).2.2 ⟨false,w',h,d,s',x,y⟩ (placeIn false s' (l.take i)) (placeIn false s' (l.take (i+1))-placeIn false s' (l.take i))
    rw[aW3]
    lia
   have fin: ∀c4 H4,Same H3 H4->H4 c4=some (.lst ((lv (pY (leavesIn (n+1)) ⟨false,w',h,d,s',x,y⟩ (placeIn false s' (l.take i)) (placeIn false s' (l.take (i+1))-placeIn false s' (l.take i)) t)).map V.int))->
     RB (.ref nl) [.ref c4] H4 (fun _ H'=>Same H H'/\(∀b o,H2 b=some o->b≠nl->H' b=some o)/\H' nl=some (.lst ((lv (upTo (leavesIn (n+1)) ⟨false,w',h,d,s',x,y⟩ (l.take (i+1)))).map V.int))/\(H' sa=some (.lst xs))/\
      ∃x4 x5 x6,([some (V.ref b0),some (V.int x),some (V.int y),some (V.ref nl),some (V.ref ua),some (V.int (placeIn false s' (l.take i))),some (V.int (placeIn false s' (l.take (i+1))-placeIn false s' (l.take i)))]:L2.St)=[some (V.ref b0),some (V.int x),some (V.int y),some (V.ref nl),x4,x5,x6]):=fun c4 H4 s4 h4=>by
    have:=sn _ H4 s4 ⟨c4,h4,trivial⟩ rfl
    refine aY3 (s4 _ _ hn3) h4 (by lia) ⟨lV (s3.trans s4) nnl,fun b o e ne=>?_,?_,?_,_,_,_,rfl⟩
    .rw[aM ne]
     exact s4 _ _ (o3' b o e ne)
    .rw[aH,es,RW]
    .rw[aM (nnl2 i t ht)]
     exact s4 _ _ hs3
   refine aRh (SqT.of e4) ?_
   cases t with
   |leaders g how uu=>
    obtain⟨vv,hvv,rfl⟩:=ukv
    walk_at "go"
    refine⟨tyL hn3,?_⟩
    walk_at "go"
    refine⟨_,false,w',h,d,s',sh,l,_,g,how,uu,_,_,_,_,rfl,hT.mono s3,hu3,hRt,by lia,by lia,⟨by lia,by lia,by lia,by lia⟩,fun v' H4 s4 hN=>?_⟩
    obtain⟨c4,rfl,h4⟩:=hN
    exact fin c4 H4 s4 h4
   |_=>
    first|obtain rfl:ukvs=_:=ukv|obtain⟨_,_,rfl⟩:=ukv|obtain⟨_,_,_,_,_,_,rfl⟩:=ukv
    walk_at "go"
    refine⟨tyL hn3,?_⟩
    walk_at "go"
    refine⟨_,false,w',h,d,s',sh,l,_,_,_,_,rfl,hT.mono s3,hu3,hRt,rfl,by lia,by lia,fun v' H4 s4 hN=>?_⟩
    obtain⟨c4,rfl,h4⟩:=hN
    exact fin c4 H4 s4 h4
  .rintro σ H3 ⟨s3,o3',hn3,hs3,x4,x5,x6,rfl⟩
   rw[St.len,List.take_length] at hn3
   walk_at "go"
   exact k _ H3 s3 ⟨nl,rfl,hn3⟩
theorem aY9 (n:Nat)(GL:bJ P w K mg base (CXE P w) (22+4*n) M.cM.f M.cM.fd gY (pLC n))(GD:bJ P w K mg base (CXE P w) (23+4*n) M.dY.f M.dY.fd j4 (pDC n)):
  bJ P w K mg base (CXE P w) (24+4*n) M.iG.f M.iG.fd mQ (pCL n):=by
 refine mU (M.iG.F.okE (k:=23+4*n) lQ (fun vs H Q E h=>?_) (fun cdv A outer s H vs Q E hr h=>?_)) (by lia)
 .obtain⟨_,_,_,_,_,_,_,_,_,rfl,_⟩:=h
  rfl
 .obtain⟨v,w',h,d,s',sh,l,x,y,rfl,hT,hR,hn,hz,k⟩:=h
  refine⟨_,(aB (bF (i:=3) lQ.nd rfl (Or.inl rfl) (cX aD))
   (aB (lM PassesOwn.«leaving» rfl (nM (aJ (aB6 M) (hr.mono (by walk_at "o")) rfl M.pO.m M.pO.k M.pO.b .nil aC (aA (pv 0) aD))) (M8 (n:=3) rfl (gW (cV (i:=4) lQ.nd rfl (Or.inl rfl)) (gW (cV (i:=5) lQ.nd rfl (Or.inl rfl)) (gW (cV (i:=6) lQ.nd rfl (Or.inl rfl)) yM)))) (aG (bR (aW cT (aZ (bO hr) (pv 4) aN (fun _ _=>rfl)) aN (bD _)) (aG (bQ (vY PySem.F.plainAttrs_list PySem.F.slot_list_extend PySem.F.type_list_extend mV (pv 3) (aA (aJ GD (hr.mono (by walk_at "o")) rfl M.dY.m M.dY.k M.dY.b .nil aC (aA (pv 0) (aA (pv 4) (aA (pv 1) (aA (pv 2) (aA (pv 5) (aA (pv 6) aD))))))) aD)))) (aG (bQ (vY PySem.F.plainAttrs_list PySem.F.slot_list_extend PySem.F.type_list_extend mV (pv 3) (aA (aJ GL (hr.mono (by walk_at "o")) rfl M.cM.m M.cM.k M.cM.b .nil aC (aA (pv 0) (aA (pv 4) (aA (pv 1) (aA (cN fH (pv 2) (pv 5)) aD))))) aD)))))))
   (aG (aP (pv 3))))),?_⟩
  try dsimp only[aFc]
  obtain⟨hRn,hR8,hB,hlen⟩:=aW5 hR hn hz
  have hzl:=aEb true w' h d s' sh l
  obtain⟨o1,o2,o3,o4,o5⟩:=aP9 ⟨_,hR⟩
  have hT':=hT
  obtain⟨b0,kvs0,rfl,hb0,_⟩:=hT'.kv
  walk_at "go"
  refine⟨Nat.zero_le _,fun nl nnl=>?_⟩
  have s1:=aU nnl (.lst [])
  walk_at "go"
  refine vR ?_
  walk_at "go"
  refine⟨H,_,true,w',h,d,s',sh,l,rfl,s1,hT,⟨_,hR⟩,hR8,hlen,fun sa xs H2 s2 hsa St=>?_⟩
  refine⟨sa,rfl,⟨_,SqL.of hsa⟩,?_⟩
  have nnl2: ∀i t,l[i]?=some t->sa≠nl:=fun i t hi=>jO hsa (s2 nl _ aH) (fun z=>by
   injection z with z
   obtain⟨_,_,e,_⟩:=St.at_ i t hi
   rw[z] at e
   simp at e)
  refine aSr (vs:=xs) (fun i σ H'=>Same H H'/\(∀b o,H2 b=some o->b≠nl->H' b=some o)/\H' nl=some (.lst ((lv (upTo (leavesIn (n+1)) ⟨true,w',h,d,s',x,y⟩ (l.take i))).map V.int))/\(H' sa=some (.lst xs))/\
   ∃x4 x5 x6,σ=[some (.ref b0),some (.int x),some (.int (y-h)),some (.ref nl),x4,x5,x6]) ⟨s1.trans s2,fun b o e _=>e,s2 _ _ aH,hsa,none,none,none,rfl⟩ (fun i σ H' p=>SqL.of p.2.2.2.1) ?_ ?_
  .rintro i v σ H3 hi ⟨s3,o3',hn3,hs3,x4,x5,x6,rfl⟩
   have hil:i<l.length:=by rw[<- St.len];exact(List.getElem?_eq_some_iff.mp hi).1
   have ht:=List.getElem?_eq_getElem hil
   generalize l[i]=t at ht
   obtain⟨ta,u,e1,e2,e3⟩:=St.at_ i t ht
   rw[hi] at e1
   cases e1
   have e2':H2 ta=some _:=e2
   have nta:ta≠nl:=jO e2 (s2 nl _ aH) (by intro z;cases z)
   have e4:=o3' _ _ e2 nta
   have hRt:right n t=true:=List.all_eq_true.mp hRn t (List.mem_of_getElem? ht)
   have hzt:=aEd ht
   have hu3:Th H3 u t:=e3.mono s3
   obtain⟨ua,ukvs,rfl,hua,ukv⟩:=hu3.kv
   have et:l.take (i+1)=l.take i++[t]:=(iQ ht).2
   have bA:=zR (c:=true) (hB.take i) (oH (fun _ h=>h) (by rw[List.all_eq_true];exact fun z hz=>List.all_eq_true.mp hR8 z (List.mem_of_mem_take hz))) o1 o2 o3 o4
   have bB:=zR (c:=true) (hB.take (i+1)) (oH (fun _ h=>h) (by rw[List.all_eq_true];exact fun z hz=>List.all_eq_true.mp hR8 z (List.mem_of_mem_take hz))) o1 o2 o3 o4
   have lA:(lv (upTo (leavesIn (n+1)) ⟨true,w',h,d,s',x,y⟩ (l.take i))).length<=96*szL (l.take i):=YS (b:=96) (q:=fun t=>right n t=true) (fun p s u hu=>(vI n (n+1) u hu).2.2 _ p s) _ (fun z hz=>List.all_eq_true.mp hRn z (List.mem_of_mem_take hz))
   have lA2:szL (l.take i)<=2000:=(hB.take i).sz
   have es:=aAe (leavesIn (n+1)) ⟨true,w',h,d,s',x,y⟩ (l.take i) t
   rw[<- et] at es
   have sn: ∀ys H4,Same H3 H4->(∃c4,H4 c4=some (.lst (ys.map V.int))/\True)->ys=lv (pY (leavesIn (n+1)) ⟨true,w',h,d,s',x,y⟩ (placeIn true s' (l.take i)) (placeIn true s' (l.take (i+1))-placeIn true s' (l.take i)) t)->ys.length<=192000:=fun ys H4 _ _ e=>by
    rw[e]
    have:=(vI n (n+1) t hRt).2.2 ⟨true,w',h,d,s',x,y⟩ (placeIn true s' (l.take i)) (placeIn true s' (l.take (i+1))-placeIn true s' (l.take i))
    rw[aW3]
    lia
   have fin: ∀c4 H4,Same H3 H4->H4 c4=some (.lst ((lv (pY (leavesIn (n+1)) ⟨true,w',h,d,s',x,y⟩ (placeIn true s' (l.take i)) (placeIn true s' (l.take (i+1))-placeIn true s' (l.take i)) t)).map V.int))->
     RB (.ref nl) [.ref c4] H4 (fun _ H'=>Same H H'/\(∀b o,H2 b=some o->b≠nl->H' b=some o)/\H' nl=some (.lst ((lv (upTo (leavesIn (n+1)) ⟨true,w',h,d,s',x,y⟩ (l.take (i+1)))).map V.int))/\(H' sa=some (.lst xs))/\
      ∃x4 x5 x6,([some (V.ref b0),some (V.int x),some (V.int (y-h)),some (V.ref nl),some (V.ref ua),some (V.int (placeIn true s' (l.take i))),some (V.int (placeIn true s' (l.take (i+1))-placeIn true s' (l.take i)))]:L2.St)=[some (V.ref b0),some (V.int x),some (V.int (y-h)),some (V.ref nl),x4,x5,x6]):=fun c4 H4 s4 h4=>by
    have:=sn _ H4 s4 ⟨c4,h4,trivial⟩ rfl
    refine aY3 (s4 _ _ hn3) h4 (by lia) ⟨lV (s3.trans s4) nnl,fun b o e ne=>?_,?_,?_,_,_,_,rfl⟩
    .rw[aM ne]
     exact s4 _ _ (o3' b o e ne)
    .rw[aH,es,RW]
    .rw[aM (nnl2 i t ht)]
     exact s4 _ _ hs3
   refine aRh (SqT.of e4) ?_
   cases t with
   |leaders g how uu=>
    obtain⟨vv,hvv,rfl⟩:=ukv
    walk_at "go"
    refine⟨tyL hn3,?_⟩
    walk_at "go"
    refine⟨_,true,w',h,d,s',sh,l,_,g,how,uu,_,_,_,_,rfl,hT.mono s3,hu3,hRt,by lia,by lia,⟨by lia,by lia,by lia,by lia⟩,fun v' H4 s4 hN=>?_⟩
    obtain⟨c4,rfl,h4⟩:=hN
    exact fin c4 H4 s4 h4
   |_=>
    first|obtain rfl:ukvs=_:=ukv|obtain⟨_,_,rfl⟩:=ukv|obtain⟨_,_,_,_,_,_,rfl⟩:=ukv
    walk_at "go"
    refine⟨tyL hn3,?_⟩
    walk_at "go"
    refine⟨_,true,w',h,d,s',sh,l,_,_,_,_,rfl,hT.mono s3,hu3,hRt,rfl,by lia,by lia,fun v' H4 s4 hN=>?_⟩
    obtain⟨c4,rfl,h4⟩:=hN
    exact fin c4 H4 s4 h4
  .rintro σ H3 ⟨s3,o3',hn3,hs3,x4,x5,x6,rfl⟩
   rw[St.len,List.take_length] at hn3
   walk_at "go"
   exact k _ H3 s3 ⟨nl,rfl,hn3⟩
theorem aYa (n:Nat)(GR:bJ P w K mg base (CXE P w) (24+4*n) M.mD.f M.mD.fd rO (pRL n))(GC:bJ P w K mg base (CXE P w) (24+4*n) M.iG.f M.iG.fd mQ (pCL n)):
  bJ P w K mg base (CXE P w) (25+4*n) M.cZ.f M.cZ.fd jZ (pBL (n+1)):=by
 refine mU (M.cZ.F.okE (k:=24+4*n) aFq (fun vs H Q E h=>?_) (fun cdv A outer s H vs Q E hr h=>?_)) (by lia)
 .obtain⟨_,_,_,_,_,_,_,_,_,_,rfl,_⟩:=h
  rfl
 .obtain⟨v,c,w',h,d,s',sh,l,x,y,rfl,hT,hR,hn,hz,k⟩:=h
  refine⟨_,(aB (bR (aW cT (aZ (bO hr) (pv 0) aN (fun _ _=>rfl)) (dR rfl M.aAx) (bD _)) (aG (aP (aJ GR (hr.mono (by walk_at "o")) rfl M.mD.m M.mD.k M.mD.b .nil aC (aA (pv 0) (aA (pv 1) (aA (pv 2) aD)))))) bC)
   (aG (aP (aJ GC (hr.mono (by walk_at "o")) rfl M.iG.m M.iG.k M.iG.b .nil aC (aA (pv 0) (aA (pv 1) (aA (cN sZ (pv 2) (aZ (bO hr) (pv 0) aN (fun _ _=>rfl))) aD))))))),?_⟩
  try dsimp only[aFc]
  have hT':=hT
  obtain⟨b0,kvs0,rfl,hb0,u,hu,rfl⟩:=hT'.kv
  cases c with
  |false=>
   walk_at "go"
   exact⟨_,w',h,d,s',sh,l,x,y,rfl,hT,hR,hn,hz,k⟩
  |true=>
   walk_at "go"
   exact⟨_,w',h,d,s',sh,l,x,y,rfl,hT,hR,hn,hz,k⟩
theorem bE1 {vs:List V}{H:Hp}{Q:VK}{E:XK}(h:pBL 0 vs H Q E):False:=by
 obtain⟨_,_,_,_,_,_,_,_,_,_,_,_,z,_⟩:=h
 cases z
theorem aW6: ∀n:Nat,bJ P w K mg base (CXE P w) (21+4*n) M.cZ.f M.cZ.fd jZ (pBL n)
 |0=>⟨fun _ _ _ _ h=>(bE1 h).elim,fun _ _ _ _ _ _ _ _ _ _ _ _ _ h=>(bE1 h).elim⟩
 |n+1=>
  let lr:=aY4 M n (aW6 n)
  let lc:=aY5 M n (aW6 n)
  mU (aYa M n (aY8 M n lr (aY6 M n lr)) (aY9 M n lc (aY7 M n lc))) (by lia)
theorem aG4:bJ P w K mg base (CXE P w) 53 M.cZ.f M.cZ.fd jZ (pBL 8):=aW6 M 8
end
end Pr
end
section
namespace Pr
open PySem PySem.Spec PyProof.Rows L2 SbThing SbPack
section
variable{K:PySem.W.Frag}{H:Hp}{Q:VK}
theorem bE2 {neg:Bool}{x:V}{p:Addr}{xs:List V}(hs:SqT K H p xs)(fx:uY x=true)(fs:xs.all uY=true)(q:Q (.bl (if neg then !inV x xs else inV x xs)) H):rIn K neg x (.ref p) H Q:=⟨p,xs,rfl,.inr hs,fx,fs,q⟩
end
noncomputable def kindS:Thing->Str
 | .glyph _ _ _ _=>"glyph"
 | .kern _=>"kern"
 | .glue _=>"glue"
 | .leaders _ _ _=>"leaders"
 | .penalty _=>"penalty"
 | .rule _ _ _=>"rule"
 | .box _ _ _ _ _ _ _=>"box"
 | .disc _ _ _=>"disc"
 | .adjust _=>"adjust"
 | .mark _=>"mark"
 | .insert _ _ _ _ _=>"insertion"
 | .anchor _=>"anchor"
theorem Th.kd {H:Hp}{v:V}{t:Thing}(h:Th H v t): ∃a r,v= .ref a/\H a=some (.dK ((kk "kind",.str (kindS t))::r)):=by
 obtain⟨a,kvs,e,ha,kv⟩:=h.kv
 cases t
 all_goals (first|obtain rfl:kvs=_:=kv|obtain⟨_,_,rfl⟩:=kv|obtain⟨_,_,_,_,_,_,rfl⟩:=kv)
 all_goals exact⟨a,_,e,ha⟩
theorem aNb (t:Thing):inV (.str (kindS t)) [.str "glue",.str "leaders"]=isGlue t:=by cases t <;>rfl
theorem aEe (t:Thing):inV (.str (kindS t)) [.str "glue",.str "leaders",.str "kern",.str "penalty"]=dropped t:=by cases t <;>rfl
theorem aEf (t:Thing):inV (.str (kindS t)) [.str "box",.str "rule",.str "insertion"]=holds t:=by cases t <;>rfl
theorem aT7 (t:Thing):inV (.str (kindS t)) [.str "insertion",.str "mark",.str "adjust"]=moves t:=by cases t <;>rfl
noncomputable def aZt:Thing->Bool
 | .penalty _=>true
 |_=>false
theorem aPm (t:Thing):decide (V.str (kindS t)=V.str "penalty")=aZt t:=by cases t <;>rfl
theorem aYb (t:Thing):decide (V.str (kindS t)=V.str "kern")=isKern t:=by cases t <;>rfl
noncomputable def aBr (l:List Thing)(i:Nat):Option Int:=if i=l.length then some 0 else if isBreak l i=true then some (penaltyAt l i) else none
noncomputable def comb (x:Nat×Int):Option (Nat×Int)->Nat×Int
 |none=>x
 |some y=>if y.2<=x.2 then y else x
noncomputable def pick (st:Option (Nat×Int))(x:Nat×Int):Nat×Int:=match st with
 |none=>x
 |some y=>if x.2<=y.2 then x else y
noncomputable def VR (cost:Nat->Option Int)(forced:Nat->Bool):List Nat->Option (Nat×Int)->Nat
 |[],st=>(st.map (·.1)).getD 0
 |i::r,st=>match cost i with
  |none=>(st.map (·.1)).getD i
  |some c=>if forced i=true then(pick st (i,c)).1 else VR cost forced r (some (pick st (i,c)))
theorem W0 (x:Nat×Int)(r:List (Nat×Int)):leastLast (x::r)=some (comb x (leastLast r)):=by
 rw[leastLast]
 cases leastLast r with
 |none=>rfl
 |some y=>
  show (if y.2<=x.2 then some y else some x)=some (if y.2<=x.2 then y else x)
  split <;>rfl
theorem aHq (st x:Nat×Int)(L:Option (Nat×Int)):comb (pick (some st) x) L=comb st (some (comb x L)):=by
 cases L with
 |none=>rfl
 |some y=>
  show (if y.2<=(if x.2<=st.2 then x else st).2 then y else(if x.2<=st.2 then x else st))=(if(if y.2<=x.2 then y else x).2<=st.2 then(if y.2<=x.2 then y else x) else st)
  by_cases h1:x.2<=st.2
  .by_cases h2:y.2<=x.2
   .have h3:y.2<=st.2:=Int.le_trans h2 h1
    simp[h1,h2,h3]
   .simp[h1,h2]
  .by_cases h2:y.2<=x.2
   .simp[h1,h2]
   .have h3: ¬y.2<=st.2:=by lia
    simp[h1,h2,h3]
theorem aNc (cost:Nat->Option Int)(forced:Nat->Bool): ∀(bs:List Nat)(st:Nat×Int),VR cost forced bs (some st)=(comb st (leastLast (lookedAt cost forced bs))).1
 |[],st=>rfl
 |i::r,st=>by
  rw[VR,lookedAt]
  cases h:cost i with
  |none=>rfl
  |some c=>
   simp only
   by_cases hf:forced i=true
   .rw[if_pos hf,if_pos hf,W0,<- aHq]
    rfl
   .rw[if_neg hf,if_neg hf,W0,aNc cost forced r,<- aHq]
theorem aW7 (cost:Nat->Option Int)(forced:Nat->Bool)(bs:List Nat):VR cost forced bs none=match leastLast (lookedAt cost forced bs) with|some x=>x.1|none=>bs.headD 0:=by
 cases bs with
 |nil=>rfl
 |cons i r=>
  rw[VR,lookedAt]
  cases h:cost i with
  |none=>rfl
  |some c=>
   simp only
   by_cases hf:forced i=true
   .rw[if_pos hf,if_pos hf]
    rfl
   .rw[if_neg hf,if_neg hf,W0,aNc]
    rfl
noncomputable def W2 (l:List Thing)(i:Nat):List Nat:=if i<=l.length then((List.range l.length).drop i).filter (isBreak l)++[l.length] else []
theorem aAf (v most:Int)(l:List Thing):cutAt v most l=VR (costAt v most l) (isForced l) (W2 l 0) none:=by
 rw[aW7]
 rfl
theorem aYc {l:List Thing}{i:Nat}(h:i<l.length):W2 l i=if isBreak l i=true then i::W2 l (i+1) else W2 l (i+1):=by
 unfold W2
 rw[if_pos (show i<=l.length by lia),if_pos (show i+1<=l.length by lia)]
 have e:(List.range l.length).drop i=i::(List.range l.length).drop (i+1):=by
  rw[List.drop_eq_getElem_cons (by simpa using h)]
  simp
 rw[e,List.filter_cons]
 split <;>rfl
theorem aEg (l:List Thing):W2 l l.length=[l.length]/\W2 l (l.length+1)=[]:=by
 unfold W2
 constructor
 .rw[if_pos (Nat.le_refl _),List.drop_of_length_le (by simp)]
  rfl
 .rw[if_neg (by lia)]
theorem aT8 {l:List Thing}{i:Nat}(h:i<=l.length):W2 l i=match aBr l i with|some _=>i::W2 l (i+1)|none=>W2 l (i+1):=by
 unfold aBr
 by_cases e:i=l.length
 .subst e
  rw[if_pos rfl,(aEg l).1,(aEg l).2]
 .rw[if_neg e,aYc (by lia)]
  by_cases b:isBreak l i=true
  .rw[if_pos b,if_pos b]
  .rw[if_neg b,if_neg b]
theorem bBr {l:List Thing}{i:Nat}{p:Int}(h:aBr l i=some p):p=penaltyAt l i:=by
 unfold aBr at h
 split at h
 .rename_i e
  cases h
  unfold penaltyAt
  rw[e,List.getElem?_eq_none (Nat.le_refl _)]
 .split at h
  .cases h;rfl
  .cases h
theorem aRk (l:List Thing):penaltyAt l l.length=0:=by
 unfold penaltyAt
 rw[List.getElem?_eq_none (Nat.le_refl _)]
theorem aW8 (v most:Int)(l:List Thing):cutAt v most l<=l.length:=by
 have key: ∀(bs:List Nat)(st:Option (Nat×Int)),(∀b∈bs,b<=l.length)->(∀x,st=some x->x.1<=l.length)->VR (costAt v most l) (isForced l) bs st<=l.length:=by
  intro bs
  induction bs with
  |nil=>
   intro st _ h
   cases st with
   |none=>exact Nat.zero_le _
   |some x=>exact h x rfl
  |cons i r ih=>
   intro st hb h
   have hp: ∀c,(pick st (i,c)).1<=l.length:=fun c=>by
    cases st with
    |none=>exact hb i (by simp)
    |some y=>
     show (if c<=y.2 then(i,c) else y).1<=_
     split
     .exact hb i (by simp)
     .exact h y rfl
   rw[VR]
   split
   .cases st with
    |none=>exact hb i (by simp)
    |some x=>exact h x rfl
   .rename_i c _
    split
    .exact hp c
    .exact ih _ (fun b hb'=>hb b (by simp[hb'])) (fun x e=>by cases e;exact hp c)
 rw[aAf]
 refine key _ _ (fun b hb=>?_) (fun x e=>by cases e)
 unfold W2 at hb
 rw[if_pos (Nat.zero_le _)] at hb
 rcases List.mem_append.mp hb with z|z
 .have:=List.mem_of_mem_drop (List.mem_filter.mp z).1
  simp at this
  lia
 .simp at z
  lia
end Pr
end
local macro_rules | `(tactic| walk_at "s") => `(tactic| ((with_reducible refine' Pr.bE2 ?e1 ?e2 ?e3 ?_); (case e1 => first | exact Pr.Tup.sq (by assumption) _); (case e2 => rfl); (case e3 => rfl)))
section
namespace Pr
open PySem PySem.Spec PyProof.Rows L2 SbThing SbPack
section
variable{P:Program}{w:World}{K:PySem.W.Frag}{mg:Str->Option Value}{base:Heap}(M:Md w K mg)
noncomputable def piV:Option Int->V
 |none=> .non
 |some i=> .int i
noncomputable def bFa:Sp:=fun vs H Q _=>Ex3_ fun u l(i:Nat)=>And4_ (vs=[u,.int i]) (LAt H u l) (i<=l.length) (Q (piV (aBr l i)) H)
theorem bBs {l:List Thing}{i:Nat}{t:Thing}(h:l[i]?=some t):aBr l i=if isBreak l i=true then some (penaltyAt l i) else none:=by
 unfold aBr
 rw[if_neg]
 have:=(List.getElem?_eq_some_iff.mp h).1
 lia
theorem aW9 {l:List Thing}{t:Thing}(h:l[0]?=some t)(g:isGlue t=true):isBreak l 0=false:=by
 unfold isBreak
 rw[h]
 cases t with
 |glue _=>rfl
 |leaders _ _ _=>rfl
 |_=>cases g
theorem aWa {l:List Thing}{t u:Thing}{q:Nat}(h:l[q+1]?=some t)(g:isGlue t=true)(hu:l[q]?=some u):isBreak l (q+1)= !dropped u:=by
 unfold isBreak
 rw[h]
 cases t with
 |glue _=>
  show (true&&(l[q]?.map fun(u:Thing)=> !dropped u).getD false)=_
  rw[hu,Bool.true_and]
  rfl
 |leaders _ _ _=>
  show (true&&(l[q]?.map fun(u:Thing)=> !dropped u).getD false)=_
  rw[hu,Bool.true_and]
  rfl
 |_=>cases g
theorem aYd {l:List Thing}{t:Thing}{i:Nat}(h:l[i]?=some t)(g:isKern t=true):isBreak l i=(l[i+1]?.map isGlue).getD false:=by
 unfold isBreak
 rw[h]
 cases t with
 |kern _=>rfl
 |_=>cases g
theorem bE3 {l:List Thing}{t:Thing}{i:Nat}(h:l[i]?=some t)(g:isGlue t=false)(k:isKern t=false)(p:aZt t=false):isBreak l i=false:=by
 unfold isBreak
 rw[h]
 cases t with
 |kern _=>cases k
 |penalty _=>cases p
 |glue _=>cases g
 |leaders _ _ _=>cases g
 |_=>rfl
theorem TV:bJ P w K mg base (CXE P w) 1 M.kZ.f M.kZ.fd wF bFa:=by
 refine M.kZ.F.okE pH (fun vs H Q E h=>?_) (fun cdv A outer s H vs Q E hr h=>?_)
 .obtain⟨_,_,_,rfl,_⟩:=h
  rfl
 .obtain⟨u,l,i,rfl,⟨a,vs,rfl,ha,hv⟩,hi,k⟩:=h
  have tG:=M.aQy
  have tD:=M.aA5
  refine⟨_,(aB (bR (aW cT (pv 1) (dF cU rfl M.sI boot_len (aA (pv 0) aD)) (bD _)) (aG (aP aQ)) bC)
   (aB (bF (i:=2) pH.nd rfl (Or.inl rfl) (aZ (bO hr) (cJ bM (pv 0) (pv 1) (fun _ _=>rfl)) aN (fun _ _=>rfl)))
   (aB (bR (aW cT (pv 2) aN (bD _)) (aB (bF (i:=3) pH.nd rfl (Or.inl rfl) (aZ (bO hr) (cJ bM (pv 0) (pv 1) (fun _ _=>rfl)) aN (fun _ _=>rfl)))
   (aG (aP (lK (aW KQ (pv 3) (dR rfl M.aDk) (bD _)) (pv 3) qW)))) bC)
   (aB (bR (aW DN (pv 2) (pR (v:= .ref M.Y8) rfl M.aJj rfl) rfl) (aG (bF (i:=4) pH.nd rfl (Or.inl rfl) (aO2 (HJ xK (pv 1) aQ (bD _)) (aTq (HJ HN (aZ (bO hr) (cJ bM (pv 0) (cN sZ (pv 1) aQ) (fun _ _=>rfl)) aN (fun _ _=>rfl)) (pR (v:= .ref M.FW) rfl M.aA4 rfl) rfl))))) (aG (bF (i:=4) pH.nd rfl (Or.inl rfl) (aO2 (HJ cT (pv 2) aN (bD _)) (aO2 (HJ KQ (cN fH (pv 1) aQ) (dF cU rfl M.sI boot_len (aA (pv 0) aD)) (bD _)) (aTq (HJ DN (aZ (bO hr) (cJ bM (pv 0) (cN fH (pv 1) aQ) (fun _ _=>rfl)) aN (fun _ _=>rfl)) (pR (v:= .ref M.Y8) rfl M.aJj rfl) rfl)))))))
   (aG (aP (lK (nZ (pv 4)) aQ qW))))))),?_⟩
  try dsimp only[aFc]
  have hs:=SqL.of (K:=K) ha
  have hvl:=hv.len
  walk_at "go"
  refine eN (fun c=>?_) (fun c=>?_)
  .have c:i=l.length:=by have:=of_decide_eq_true c;injection this with this;lia
   walk_at "go"
   unfold aBr at k
   rw[if_pos c] at k
   exact k
  .have c:i<l.length:=by
    rcases Nat.lt_or_ge i l.length with z|z
    .exact z
    .exact absurd (decide_eq_true (by rw[hvl,show i=l.length by lia])) c
   have ht:=List.getElem?_eq_getElem c
   generalize l[i]=t at ht
   obtain⟨v,hv1,hT⟩:=hv.of ht
   obtain⟨b,r,rfl,hb⟩:=hT.kd
   have ek:=bBs ht
   rw[ek] at k
   walk_at "go"
   refine cI hs (bH (j:=i) hv1) ?_
   walk_at "go"
   rw[aPm]
   refine eN (fun c1=>?_) (fun c1=>?_)
   .cases t with
    |penalty p=>
     obtain⟨b',kvs',e',hb',kv'⟩:=hT.kv
     cases e'
     obtain rfl:kvs'=_:=kv'
     have hbr:isBreak l i=decide (p<10000):=by unfold isBreak;rw[ht];rfl
     have hpa:penaltyAt l i=p:=by unfold penaltyAt;rw[ht]
     rw[hbr,hpa] at k
     walk_at "go"
     refine cI hs (bH (j:=i) hv1) ?_
     walk_at "go"
     refine eN (fun c2=>?_) (fun c2=>?_)
     .rw[if_pos c2] at k
      walk_at "go"
      exact k
     .rw[if_neg c2] at k
      walk_at "go"
      exact k
    |_=>cases c1
   .have hpa:penaltyAt l i=0:=by
     unfold penaltyAt
     rw[ht]
     cases t <;>first|rfl|exact absurd rfl c1
    rw[hpa] at k
    walk_at "go"
    rw[show (if false=true then _ else inV (V.str (kindS t)) [V.str "glue",V.str "leaders"])=isGlue t from aNb t]
    refine eN (fun c2=>?_) (fun c2=>?_)
    .walk_at "go"
     cases i with
     |zero=>
      rw[aW9 ht c2] at k
      walk_at "go"
      exact k
     |succ q=>
      refine V9 (decide_eq_true (by lia)) ?_
      have hq:q<l.length:=by lia
      have hu:=List.getElem?_eq_getElem hq
      generalize l[q]=u at hu
      obtain⟨v2,hv2,hU⟩:=hv.of hu
      obtain⟨b2,r2,rfl,hb2⟩:=hU.kd
      rw[aWa ht c2 hu] at k
      walk_at "go"
      rw[show ((q+1:Nat):Int)-1=(q:Int) by lia]
      refine cI hs (bH (j:=q) hv2) ?_
      walk_at "go"
      rw[show (if true=true then !inV (V.str (kindS u)) [V.str "glue",V.str "leaders",V.str "kern",V.str "penalty"] else _)= !dropped u from congrArg (!·) (aEe u)]
      have k':Q (piV (if(!dropped u)=true then some 0 else none)) H:=k
      refine eN (fun c3=>?_) (fun c3=>?_)
      .rw[if_pos c3] at k'
       walk_at "go"
       exact k'
      .rw[if_neg c3] at k'
       walk_at "go"
       exact k'
    .have hng:isGlue t=false:=by simpa using c2
     walk_at "go"
     rw[aYb]
     refine eN (fun c3=>?_) (fun c3=>?_)
     .have hbr:=aYd ht c3
      rw[hbr] at k
      walk_at "go"
      refine eN (fun c4=>?_) (fun c4=>?_)
      .have c4:i+1<l.length:=by have:=of_decide_eq_true c4;lia
       have hu:=List.getElem?_eq_getElem c4
       generalize l[i+1]=u at hu
       obtain⟨v2,hv2,hU⟩:=hv.of hu
       obtain⟨b2,r2,rfl,hb2⟩:=hU.kd
       rw[hu] at k
       walk_at "go"
       rw[show (i:Int)+1=((i+1:Nat):Int) by lia]
       refine cI hs (bH (j:=i+1) hv2) ?_
       walk_at "go"
       rw[show (if false=true then _ else inV (V.str (kindS u)) [V.str "glue",V.str "leaders"])=isGlue u from aNb u]
       have k':Q (piV (if isGlue u=true then some 0 else none)) H:=k
       refine eN (fun c5=>?_) (fun c5=>?_)
       .rw[if_pos c5] at k'
        walk_at "go"
        exact k'
       .rw[if_neg c5] at k'
        walk_at "go"
        exact k'
      .have c4:l[i+1]?=none:=by
        rw[List.getElem?_eq_none_iff]
        rcases Nat.lt_or_ge (i+1) l.length with z|z
        .exact absurd (decide_eq_true (by lia)) c4
        .exact z
       rw[c4] at k
       walk_at "go"
       exact k
     .have hbr:=bE3 ht hng (by simpa using c3) (by simpa using c1)
      rw[hbr] at k
      walk_at "go"
      exact k
noncomputable def bE4:Sp:=fun vs H Q _=>Ex2_ fun(b p:Int)=>And2_ (vs=[.int b,.int p]) (Q (.int (if p<= -10000 then p else if b=10000 then 100000 else b+p)) H)
theorem aG5:bJ P w K mg base (CXE P w) 1 M.qJ.f M.qJ.fd wG bE4:=by
 refine M.qJ.F.okE aFl (fun vs H Q E h=>?_) (fun cdv A outer s H vs Q E hr h=>?_)
 .obtain⟨_,_,rfl,_⟩:=h
  rfl
 .obtain⟨b,p,rfl,k⟩:=h
  refine⟨_,(aB (bR (aW aCm (pv 1) (dR rfl M.aDl) (bD _)) (aG (aP (pv 1))) bC)
   (aB (bR (aW cT (pv 0) (dR rfl M.aC4) (bD _)) (aG (aP (dR rfl M.KZ))) bC)
   (aG (aP (cN fH (pv 0) (pv 1)))))),?_⟩
  try dsimp only[aFc]
  walk_at "go"
  refine eN (fun c=>?_) (fun c=>?_)
  .have c:p<= -10000:=of_decide_eq_true c
   rw[if_pos c] at k
   walk_at "go"
   exact k
  .have c: ¬p<= -10000:=fun z=>c (decide_eq_true z)
   rw[if_neg c] at k
   walk_at "go"
   refine eN (fun c2=>?_) (fun c2=>?_)
   .have c2:b=10000:=by have:=of_decide_eq_true c2;injection this
    rw[if_pos c2] at k
    walk_at "go"
    exact k
   .have c2: ¬b=10000:=fun z=>c2 (by subst z;exact decide_eq_true rfl)
    rw[if_neg c2] at k
    walk_at "go"
    exact k
end
end Pr
end
section
namespace Pr
open PySem PySem.Spec PyProof.Rows L2 SbThing SbPack
section
variable{P:Program}{w:World}{K:PySem.W.Frag}{mg:Str->Option Value}{base:Heap}(M:Md w K mg)
noncomputable def bBt:Sp:=fun vs H Q _=>Ex4_ fun u l(v g:Int)=>And6_ (vs=[u,.int v,.int g]) (LAt H u l) (Bd l) ((-1073741823<=v/\v<=1073741823)) ((-1073741823<=g/\g<=1073741823)) (∀H',Same H H'->Q (.int (cutAt v g l:Nat)) H')
theorem aEh:bJ P w K mg base (CXE P w) 6 M.oF.f M.oF.fd uJ bBt:=by
 refine M.oF.F.okE fK (fun vs H Q E h=>?_) (fun cdv A outer s H vs Q E hr h=>?_)
 .obtain⟨_,_,_,_,rfl,_⟩:=h
  rfl
 .obtain⟨u,l,v,g,rfl,⟨a0,vs,rfl,ha,hv⟩,hB,hvv,hg,k⟩:=h
  have c:=M.qU.c
  have n5:=M.sJ
  have n6:=M.vD
  refine⟨_,(aB (bF (i:=3) fK.nd rfl (Or.inl rfl) (uX M.fC.ma (vH M) (hr.mono (by walk_at "o")) rfl M.cD.m M.fC.b .nil aC))
   (aB (bF (i:=4) fK.nd rfl (Or.inl rfl) qW)
   (aB (bF (i:=5) fK.nd rfl (Or.inl rfl) qW)
   (aB (lM PassesOwn.«leaving» rfl (DK rfl M.RT (aA (cN fH (dF cU rfl M.sI boot_len (aA (pv 0) aD)) aQ) aD)) (cV (i:=6) fK.nd rfl (Or.inl rfl)) (aB (bF (i:=7) fK.nd rfl (Or.inl rfl) (aJ (TV M) (hr.mono (by walk_at "o")) rfl M.kZ.m M.kZ.k M.kZ.b .nil aC (aA (pv 0) (aA (pv 6) aD))))
   (aB (bR (aW aWx (pv 7) qW (bD _)) (aB (bF (i:=8) fK.nd rfl (Or.inl rfl) (dN (pv 3) M.cD.c M.dU.m (sS M) (hr.mono (by walk_at "o")) M.dU.b .nil aC (aA (pv 1) (aA (pv 2) aD))))
   (aB (bR (aW xK (bG (pv 8) rfl) aQ (bD _)) (aG (aP (lK (aW U5 (pv 4) qW (bD _)) (pv 6) (pv 4)))) bC)
   (aB (bF (i:=9) fK.nd rfl (Or.inl rfl) (aJ (aG5 M) (hr.mono (by walk_at "o")) rfl M.qJ.m M.qJ.k M.qJ.b .nil aC (aA (bG (pv 8) rfl) (aA (pv 7) aD))))
   (aB (bR (PW.pt (aCf (aW U5 (pv 5) qW (bD _)) (U0 (aW aCm (pv 9) (pv 5) (bD _))))) (aB (bF (i:=4) fK.nd rfl (Or.inl rfl) (pv 6))
   (aG (bF (i:=5) fK.nd rfl (Or.inl rfl) (pv 9)))) bC)
   (aG (bR (aW aCm (pv 7) (dR rfl M.aDl) (bD _)) (aG (aP (pv 4))) bC)))))) bC)
   (aG (bR (aW KQ (pv 6) (dF cU rfl M.sI boot_len (aA (pv 0) aD)) (bD _)) (aG (bQ (dN (pv 3) M.cD.c M.dH.m (qR M) (hr.mono (by walk_at "o")) M.dH.b .nil aC (aA (cJ bM (pv 0) (pv 6) (fun _ _=>rfl)) aD)))) bC)))))
   (aG (aP (pv 4))))))),?_⟩
  try dsimp only[aFc]
  have hvl:=hv.len
  have hln:=hB.len
  walk_at "go"
  refine aZp fun p pc pg a b H1 np npc npg na nb s1 F1=>?_
  have hs1:=SqL.of (K:=K) (s1 _ _ ha)
  walk_at "go"
  refine bBf ?_
  walk_at "go"
  rw[hvl]
  refine⟨_,rfl,by lia,by lia,?_⟩
  rw[show ((l.length:Int)+1).toNat=l.length+1 by lia]
  refine forR (fun i σ H'=>Same H H'/\aG2 M.bI.C M.fL.C M.cD.C H' p pc pg a b (l.take i)/\ ∃st x6 x7 x8 x9,σ=[some (.ref a0),some (.int v),some (.int g),some (.ref p),some (oV (Option.map (fun(z:Nat×Int)=>z.1) st)),some (piV (Option.map (fun(z:Nat×Int)=>z.2) st)),x6,x7,x8,x9]/\
   cutAt v g l=VR (costAt v g l) (isForced l) (W2 l i) st/\(i=l.length+1->st.isSome=true)) ⟨s1,F1,none,none,none,none,none,rfl,aAf v g l,fun z=>by lia⟩ ?_ ?_
  .rintro i σ H2 hi ⟨s2,F2,st,x6,x7,x8,x9,rfl,hrun,_⟩
   rw[Int.zero_add]
   have hs2:=SqL.of (K:=K) (s2 _ _ ha)
   have hst:=aT8 (show i<=l.length by lia)
   walk_at "go"
   refine⟨_,l,i,rfl,⟨a0,vs,rfl,s2 _ _ ha,hv.mono s2⟩,by lia,?_⟩
   cases hp:aBr l i with
   |none=>
    rw[hp] at hst
    rw[hst] at hrun
    have hne:i≠l.length:=fun z=>by unfold aBr at hp;rw[if_pos z] at hp;cases hp
    rw[show piV none=V.non from rfl]
    walk_at "go"
    refine⟨rfl,?_⟩
    walk_at "go"
    rw[hvl]
    refine eN (fun c7=>?_) (fun c7=>?_)
    .have c7:i<l.length:=by have:=of_decide_eq_true c7;lia
     have ht:=List.getElem?_eq_getElem c7
     have et:=(iQ ht).2
     generalize l[i]=t at ht et
     obtain⟨v1,hv1,hT1⟩:=hv.of ht
     obtain⟨dxf,hpf⟩:=F2.ob
     walk_at "go"
     refine cI (SqL.of (s2 _ _ ha)) (bH (j:=i) hv1) ?_
     walk_at "go"
     refine⟨p,pc,pg,a,b,v1,t,l.take i,rfl,F2,hT1.mono s2,hB.rt t (List.mem_of_getElem? ht),fun H6 F6 o6=>?_⟩
     walk_at "go"
     rw[<- et] at F6
     exact⟨o6.same s2 npc na nb,F6,st,_,_,_,_,rfl,hrun,fun z=>by lia⟩
    .have c7:i=l.length:=by
      rcases Nat.lt_or_ge i l.length with z|z
      .exact absurd (decide_eq_true (by lia)) c7
      .lia
     walk_at "go"
     exact⟨s2,by rw[c7] at F2 ⊢;rw[List.take_length] at F2;rw[List.take_of_length_le (by lia)];exact F2,st,_,_,_,_,rfl,hrun,fun _=>absurd c7 hne⟩
   |some pp=>
    have epp:=bBr hp
    rw[hp] at hst
    rw[hst] at hrun
    rw[show piV (some pp)=V.int pp from rfl]
    obtain⟨dxf2,hpf2⟩:=F2.ob
    walk_at "go"
    refine⟨rfl,?_⟩
    walk_at "go"
    refine⟨p,pc,pg,a,b,l.take i,v,g,rfl,F2,hB.take i,hvv,hg,fun v4 H4 s4' ft=>?_⟩
    have s4:=s2.trans s4'
    have F4:=F2.mono s4'
    have hs4:=SqL.of (K:=K) (s4 _ _ ha)
    obtain⟨fp,fdx,rfl,hfp⟩:=ft
    have efit:fitAt v g l i=fit (l.take i) (overOf (l.take i) v g):=rfl
    cases hf:fit (l.take i) (overOf (l.take i) v g) with
    |full ex=>
     rw[hf] at hfp efit
     have hex:=aJx hf
     have hco:costAt v g l i=none:=by unfold costAt;rw[efit];rfl
     walk_at "go"
     refine V9 (decide_eq_true hex) ?_
     rw[VR,hco] at hrun
     have kk1:=k H4 s4
     rw[hrun] at kk1
     cases st with
     |none=>
      rw[show oV (Option.map (fun(z:Nat×Int)=>z.1) none)=V.non from rfl]
      walk_at "go"
      refine⟨rfl,?_⟩
      walk_at "go"
      exact kk1
     |some y=>
      rw[show oV (Option.map (fun(z:Nat×Int)=>z.1) (some y))=V.int (y.1:Int) from rfl]
      walk_at "go"
      refine⟨rfl,?_⟩
      walk_at "go"
      exact kk1
    |fits bb=>
     rw[hf] at hfp efit
     have hco:costAt v g l i=some (if pp<= -10000 then pp else if bb=10000 then 100000 else bb+pp):=by unfold costAt;rw[efit,<- epp];rfl
     walk_at "go"
     refine⟨bb,pp,rfl,?_⟩
     generalize (if pp<= -10000 then pp else if bb=10000 then 100000 else bb+pp)=cc at hco ⊢
     walk_at "go"
     cases st with
     |none=>
      rw[show piV (Option.map (fun(z:Nat×Int)=>z.2) none)=V.non from rfl]
      refine⟨rfl,?_⟩
      walk_at "go"
      rw[VR,hco] at hrun
      simp only[pick] at hrun
      walk_at "go"
      refine eN (fun c5=>?_) (fun c5=>?_)
      .have c5:isForced l i=true:=by unfold isForced;rw[<- epp];exact c5
       walk_at "go"
       rw[if_pos c5] at hrun
       have kk1:=k H4 s4
       rw[hrun] at kk1
       exact kk1
      .have c5: ¬isForced l i=true:=fun z=>c5 (by unfold isForced at z;rw[<- epp] at z;exact z)
       rw[if_neg c5] at hrun
       walk_at "go"
       rw[hvl]
       refine eN (fun c7=>?_) (fun c7=>?_)
       .have c7:i<l.length:=by have:=of_decide_eq_true c7;lia
        have ht:=List.getElem?_eq_getElem c7
        have et:=(iQ ht).2
        generalize l[i]=t at ht et
        obtain⟨v1,hv1,hT1⟩:=hv.of ht
        obtain⟨dxf,hpf⟩:=F4.ob
        walk_at "go"
        refine cI hs4 (bH (j:=i) hv1) ?_
        walk_at "go"
        refine⟨p,pc,pg,a,b,v1,t,l.take i,rfl,F4,hT1.mono s4,hB.rt t (List.mem_of_getElem? ht),fun H6 F6 o6=>?_⟩
        walk_at "go"
        rw[<- et] at F6
        exact⟨o6.same s4 npc na nb,F6,some (i,cc),_,_,_,_,rfl,hrun,fun z=>by lia⟩
       .have c7:i=l.length:=by
         rcases Nat.lt_or_ge i l.length with z|z
         .exact absurd (decide_eq_true (by lia)) c7
         .lia
        walk_at "go"
        exact⟨s4,by rw[c7] at F4 ⊢;rw[List.take_length] at F4;rw[List.take_of_length_le (by lia)];exact F4,some (i,cc),_,_,_,_,rfl,hrun,fun _=>rfl⟩
     |some y=>
      rw[show piV (Option.map (fun(z:Nat×Int)=>z.2) (some y))=V.int y.2 from rfl]
      refine⟨rfl,?_⟩
      walk_at "go"
      refine eN (fun c4=>?_) (fun c4=>?_)
      .have c4:cc<=y.2:=of_decide_eq_true c4
       rw[VR,hco] at hrun
       simp only[pick,if_pos c4] at hrun
       walk_at "go"
       refine eN (fun c5=>?_) (fun c5=>?_)
       .have c5:isForced l i=true:=by unfold isForced;rw[<- epp];exact c5
        walk_at "go"
        rw[if_pos c5] at hrun
        have kk1:=k H4 s4
        rw[hrun] at kk1
        exact kk1
       .have c5: ¬isForced l i=true:=fun z=>c5 (by unfold isForced at z;rw[<- epp] at z;exact z)
        rw[if_neg c5] at hrun
        walk_at "go"
        rw[hvl]
        refine eN (fun c7=>?_) (fun c7=>?_)
        .have c7:i<l.length:=by have:=of_decide_eq_true c7;lia
         have ht:=List.getElem?_eq_getElem c7
         have et:=(iQ ht).2
         generalize l[i]=t at ht et
         obtain⟨v1,hv1,hT1⟩:=hv.of ht
         obtain⟨dxf,hpf⟩:=F4.ob
         walk_at "go"
         refine cI hs4 (bH (j:=i) hv1) ?_
         walk_at "go"
         refine⟨p,pc,pg,a,b,v1,t,l.take i,rfl,F4,hT1.mono s4,hB.rt t (List.mem_of_getElem? ht),fun H6 F6 o6=>?_⟩
         walk_at "go"
         rw[<- et] at F6
         exact⟨o6.same s4 npc na nb,F6,some (i,cc),_,_,_,_,rfl,hrun,fun z=>by lia⟩
        .have c7:i=l.length:=by
          rcases Nat.lt_or_ge i l.length with z|z
          .exact absurd (decide_eq_true (by lia)) c7
          .lia
         walk_at "go"
         exact⟨s4,by rw[c7] at F4 ⊢;rw[List.take_length] at F4;rw[List.take_of_length_le (by lia)];exact F4,some (i,cc),_,_,_,_,rfl,hrun,fun _=>rfl⟩
      .have c4: ¬cc<=y.2:=fun z=>c4 (decide_eq_true z)
       rw[VR,hco] at hrun
       simp only[pick,if_neg c4] at hrun
       walk_at "go"
       refine eN (fun c5=>?_) (fun c5=>?_)
       .have c5:isForced l i=true:=by unfold isForced;rw[<- epp];exact c5
        walk_at "go"
        rw[if_pos c5] at hrun
        have kk1:=k H4 s4
        rw[hrun] at kk1
        exact kk1
       .have c5: ¬isForced l i=true:=fun z=>c5 (by unfold isForced at z;rw[<- epp] at z;exact z)
        rw[if_neg c5] at hrun
        walk_at "go"
        rw[hvl]
        refine eN (fun c7=>?_) (fun c7=>?_)
        .have c7:i<l.length:=by have:=of_decide_eq_true c7;lia
         have ht:=List.getElem?_eq_getElem c7
         have et:=(iQ ht).2
         generalize l[i]=t at ht et
         obtain⟨v1,hv1,hT1⟩:=hv.of ht
         obtain⟨dxf,hpf⟩:=F4.ob
         walk_at "go"
         refine cI hs4 (bH (j:=i) hv1) ?_
         walk_at "go"
         refine⟨p,pc,pg,a,b,v1,t,l.take i,rfl,F4,hT1.mono s4,hB.rt t (List.mem_of_getElem? ht),fun H6 F6 o6=>?_⟩
         walk_at "go"
         rw[<- et] at F6
         exact⟨o6.same s4 npc na nb,F6,some y,_,_,_,_,rfl,hrun,fun z=>by lia⟩
        .have c7:i=l.length:=by
          rcases Nat.lt_or_ge i l.length with z|z
          .exact absurd (decide_eq_true (by lia)) c7
          .lia
         walk_at "go"
         exact⟨s4,by rw[c7] at F4 ⊢;rw[List.take_length] at F4;rw[List.take_of_length_le (by lia)];exact F4,some y,_,_,_,_,rfl,hrun,fun _=>rfl⟩
  .rintro σ H2 ⟨s2,F2,st,x6,x7,x8,x9,rfl,hrun,hsm⟩
   obtain⟨y,rfl⟩:=Option.isSome_iff_exists.mp (hsm rfl)
   rw[(aEg l).2] at hrun
   have kk1:=k H2 s2
   rw[hrun] at kk1
   walk_at "go"
   exact kk1
end
end Pr
end
section
namespace Pr
open PySem PySem.Spec PyProof.Rows L2 SbThing SbPack
section
variable{K:PySem.W.Frag}{nx bk ct:L2.St->Hp->Prop}{rt:VK}{σ:L2.St}{H:Hp}{g:TG}{tb:TS}{a:Addr}
theorem bE5 {xs:List V}(Pv:Nat->L2.St->Hp->Prop)(h0:Pv 0 σ H)(hl: ∀i σ H,Pv i σ H->SqL K H a xs)
  (hs: ∀i x σ H T,xs[i]?=some x->Pv i σ H->H T=none->g (.ref T) σ (upd H T (.tup [.int (i:Nat),x])) fun σ2 H2=>tb ⟨Pv (i+1),rt,nx,Pv (i+1)⟩ σ2 H2)
  (hd: ∀σ H,Pv xs.length σ H->nx σ H):aJm (Ite K a) g tb ⟨nx,rt,bk,ct⟩ σ H:=by
 refine⟨fun i m σ H=>m=xs.length-i/\i<=xs.length/\Pv i σ H,⟨xs.length,by simp,Nat.zero_le _,h0⟩,?_⟩
 rintro i m σ H ⟨rfl,hi,p⟩
 have q:=hl i σ H p
 by_cases hlt:i<xs.length
 .refine .inr ⟨⟨xs,xs[i],q,by simp[hlt]⟩,Pv (i+1),fun σ' H' p'=>⟨xs.length-(i+1),by lia,rfl,hlt,p'⟩,fun x H' y=>?_⟩
  obtain⟨T,x',e,hn,e2,y⟩:=y
  subst e e2
  exact hs i x' σ H T (y xs q) p hn
 .have e:i=xs.length:=by lia
  subst e
  exact .inl ⟨⟨xs,q,Nat.le_refl _⟩,hd σ H p⟩
end
theorem aEi (xs:List V)(i:Nat):aCt xs (some (i:Int)) none=xs.drop i:=by
 unfold aCt
 rw[HT.aBy,HT.aLj]
 rcases Nat.le_total i xs.length with h|h
 .rw[Nat.min_eq_left h,List.take_of_length_le (by rw[List.length_drop];exact Nat.le_refl _)]
 .rw[Nat.min_eq_right h,List.drop_of_length_le (Nat.le_refl _),List.drop_of_length_le h,List.take_nil]
theorem aEj (xs:List V)(i:Nat):aCt xs none (some (i:Int))=xs.take i:=by
 unfold aCt
 rw[HT.aBy,HT.aLj,List.drop_zero,Nat.sub_zero]
 rcases Nat.le_total i xs.length with h|h
 .rw[Nat.min_eq_left h]
 .rw[Nat.min_eq_right h,List.take_of_length_le (Nat.le_refl _),List.take_of_length_le h]
theorem Ths.append {H:Hp}{vs us:List V}{l r:List Thing}(h:Ths H vs l)(k:Ths H us r):Ths H (vs++us) (l++r):=by
 induction l generalizing vs with
 |nil=>rw[h.YD];exact k
 |cons t l ih=>
  obtain⟨v,w,e,h1,h2⟩:=h.GK
  subst e
  exact .cons h1 (ih h2)
theorem Ths.drop {H:Hp}: ∀{vs:List V}{l:List Thing}(i:Nat),Ths H vs l->Ths H (vs.drop i) (l.drop i)
 |vs,l,0,h=>h
 |vs,[],i+1,h=>by rw[h.YD];exact .nil
 |vs,t::l,i+1,h=>by
  obtain⟨v,w,e,h1,h2⟩:=h.GK
  subst e
  exact Ths.drop i h2
theorem Ths.take {H:Hp}: ∀{vs:List V}{l:List Thing}(i:Nat),Ths H vs l->Ths H (vs.take i) (l.take i)
 |vs,l,0,h=> .nil
 |vs,[],i+1,h=>by rw[h.YD];exact .nil
 |vs,t::l,i+1,h=>by
  obtain⟨v,w,e,h1,h2⟩:=h.GK
  subst e
  exact .cons h1 (Ths.take i h2)
theorem aAg: ∀(pre rest:List Thing),pre.any holds=false->begun (pre++rest)=pre.filter (fun t=> !dropped t)++begun rest
 |[],rest,_=>rfl
 |t::pre,rest,h=>by
  rw[List.any_cons,Bool.or_eq_false_iff] at h
  rw[List.cons_append,begun,if_neg (by rw[h.1];decide),aAg pre rest h.2,List.filter_cons]
  cases hd:dropped t with
  |true=>rfl
  |false=>rfl
theorem aPn {t:Thing}{r:List Thing}(h:holds t=true):begun (t::r)=t::r:=by rw[begun,if_pos h]
theorem aEk (g:Glue): ∀(pre:List Thing)(t:Thing)(r:List Thing)(x:Int×Int),(∀u∈pre,solid u=none)->solid t=some x->topped g (pre++t::r)=pre++ .glue ⟨max 0 (g.size-x.1),g.stretch,g.so,g.shrink,g.sho⟩::t::r
 |[],t,r,x,_,e=>by rw[List.nil_append,List.nil_append,topped,e]
 |u::pre,t,r,x,h,e=>by
  rw[List.cons_append,topped,h u (by simp)]
  show u::topped g (pre++t::r)=_
  rw[aEk g pre t r x (fun v hv=>h v (by simp[hv])) e]
  rfl
theorem aB7 (g:Glue): ∀(l:List Thing),(∀u∈l,solid u=none)->topped g l=l
 |[],_=>rfl
 |u::l,h=>by
  rw[topped,h u (by simp)]
  show u::topped g l=_
  rw[aB7 g l (fun v hv=>h v (by simp[hv]))]
end Pr
end
section
namespace Pr
open PySem PySem.Spec PyProof.Rows L2 SbThing SbPack
theorem aEm:aAr X7 (aL wH) {kind:= .function,names:=[(".0",.local),("thing",.local),("MOVING",.globalImplicit)],isGenerator:=false,isCoroutine:=false,more:=[]} [("thing",1)]:=⟨rfl,by decide +kernel,by decide +kernel,by decide +kernel,by decide +kernel⟩
theorem aK9:aAr aD4 (aL J7) {kind:= .function,names:=[(".0",.local),("thing",.local),("STAYING",.globalImplicit)],isGenerator:=false,isCoroutine:=false,more:=[]} [("thing",7)]:=⟨rfl,by decide +kernel,by decide +kernel,by decide +kernel,by decide +kernel⟩
section
variable{K:PySem.W.Frag}{σ:L2.St}{H:Hp}{Q:VK}
theorem aNd {i j:Nat}{b:Addr}{x y:V}{QS:L2.St->Hp->Prop}(h:SqT K H b [x,y])(k:QS ((σ.set i (some x)).set j (some y)) H):aWs K 2 (aAo (M7 i) (aAo (M7 j) aWr)) (.ref b) σ H QS:=⟨b,[x,y],rfl,h,rfl,x,[y],rfl,y,[],rfl,rfl,k⟩
theorem aZu {te0:TE}{g:TG}{tt:TT}{te:TE}{vs:List Nat}(h:te0 σ H fun x H1=> ∃a,x= .ref a/\(∃xs,SqL K H1 a xs)/\ ∀D,H1 D=none-> ∃W:Nat->Nat->Hp->Prop,(∃m,W 0 m (upd H1 D (.lst [])))/\ ∀i m H,W i m H->
 ((Itl K a).stop i H/\Q (.ref D) H)\/((Itl K a).go i H/\ ∃Nx:Hp->Prop,(∀H',Nx H'-> ∃m',m'<m/\W (i+1) m' H')/\ ∀x H',(Itl K a).yld i H x H'->g x (wipe σ vs) H' fun σ2 H2=>wipe σ2 vs=wipe σ vs/\tt σ2 H2 fun b H3=>
  if b=true then te σ2 H3 fun y H4=> ∃acc,H4 D=some (.lst acc)/\acc.length<sizeLine/\Nx (upd H4 D (.lst (acc++[y]))) else Nx H3)):tLc (aTv K te0) g tt te vs σ H Q:=h
theorem bBu {QB:Bool->Hp->Prop}(h:QB true H):bAc σ H QB:=h
end
section
variable{P:Program}{w:World}{K:PySem.W.Frag}{mg:Str->Option Value}{base:Heap}(M:Md w K mg)
noncomputable def aWb:Sp:=fun vs H Q _=>Ex2_ fun u l=>And4_ (vs=[u]) (LAt H u l) (l.length<=100000) (∀v H',Same H H'->LAt H' v (begun l)->Q v H')
theorem W3:bJ P w K mg base (CXE P w) 1 M.iZ.f M.iZ.fd nU aWb:=by
 refine M.iZ.F.okE m6 (fun vs H Q E h=>?_) (fun cdv A outer s H vs Q E hr h=>?_)
 .obtain⟨_,_,rfl,_⟩:=h
  rfl
 .obtain⟨u,l,rfl,⟨a,vs,rfl,ha,hv⟩,hlen,k⟩:=h
  have tS:=M.aA7
  have tD:=M.aA5
  refine⟨_,(aB (bF (i:=1) m6.nd rfl (Or.inl rfl) (cX aD))
   (aB (lM PassesOwn.«leaving» rfl (aQi rfl M.Q9 (aA (pv 0) aD)) (M8 (n:=2) rfl (gW (cV (i:=2) m6.nd rfl (Or.inl rfl)) (gW (cV (i:=3) m6.nd rfl (Or.inl rfl)) yM))) (aB (bR (aW DN (aZ (bO hr) (pv 3) aN (fun _ _=>rfl)) (pR (v:= .ref M.FZ) rfl M.aA6 rfl) rfl) (aG (aP (cN U6 (pv 1) (pD uE (pv 0) (qX (pv 2)) wA)))) bC)
   (aG (bR (aW HN (aZ (bO hr) (pv 3) aN (fun _ _=>rfl)) (pR (v:= .ref M.FW) rfl M.aA4 rfl) rfl) (aG (bQ (vY PySem.F.plainAttrs_list PySem.F.slot_list_append PySem.F.type_list_append DP (pv 1) (aA (pv 3) aD)))) bC))))
   (aG (aP (pv 1))))),?_⟩
  try dsimp only[aFc]
  have hvl:=hv.len
  have hb:=(by decide:(10000000:Nat)<=sizeLine)
  walk_at "go"
  refine⟨Nat.zero_le _,fun q nq=>?_⟩
  have s1:=aU nq (.lst [])
  walk_at "go"
  refine aV3 ?_
  walk_at "go"
  refine⟨a,vs,rfl,SqL.of (s1 _ _ ha),?_⟩
  refine bE5 (xs:=vs) (fun i σ H'=>Same H H'/\(l.take i).any holds=false/\(∃us,H' q=some (.lst us)/\Ths H us ((l.take i).filter fun t=> !dropped t)/\us.length<=i)/\ ∃x2 x3,σ=[some (.ref a),some (.ref q),x2,x3]) ⟨s1,rfl,⟨[],aH,.nil,Nat.zero_le _⟩,none,none,rfl⟩ (fun i σ H' p=>SqL.of (p.1 _ _ ha)) ?_ ?_
  .rintro i v σ H2 T hi ⟨s2,hno,⟨us,hq2,hus,hul⟩,x2,x3,rfl⟩ nT
   have s3:Same H (upd H2 T (.tup [.int (i:Nat),v])):=s2.trans (aU nT _)
   have hq3:=aU nT (.tup [.int (i:Nat),v]) _ _ hq2
   obtain⟨t,ht,hT⟩:=hv.at_ hi
   obtain⟨b,r,rfl,hbk⟩:=(hT.mono s3).kd
   have et:=(iQ ht).2
   have es:=(iQ ht).1
   have hil:=(List.getElem?_eq_some_iff.mp ht).1
   refine aNd (SqT.of aH) ?_
   walk_at "go"
   rw[show (if false=true then _ else inV (V.str (kindS t)) [V.str "box",V.str "rule",V.str "insertion"])=holds t from aEf t]
   refine eN (fun c=>?_) (fun c=>?_)
   .walk_at "go"
    refine Q7 (SqL.of (s3 _ _ ha)) fun z nz=>?_
    rw[aEi]
    have s4:=s3.trans (aU nz (.lst (vs.drop i)))
    refine Y5 (aU nz _ _ _ hq3) aH ?_ fun y ny=>?_
    .rw[List.length_drop]
     lia
    .refine k _ _ (s4.trans (aU ny _)) ⟨y,_,rfl,aH,?_⟩
     have eb:begun l=((l.take i).filter fun t=> !dropped t)++l.drop i:=by
      have hd:l.drop i=t::l.drop (i+1):=by
       have h2:=List.getElem?_eq_some_iff.mp ht
       rw[<- h2.2]
       exact List.drop_eq_getElem_cons h2.1
      have h1:begun l=begun (l.take i++l.drop i):=by rw[List.take_append_drop]
      rw[h1,aAg _ _ hno,hd,aPn c]
     rw[eb]
     exact(hus.append (hv.drop i)).mono (s4.trans (aU ny _))
   .have c:holds t=false:=by simpa using c
    walk_at "go"
    rw[show (if true=true then !inV (V.str (kindS t)) [V.str "glue",V.str "leaders",V.str "kern",V.str "penalty"] else _)= !dropped t from congrArg (!·) (aEe t)]
    have hno2:(l.take (i+1)).any holds=false:=by rw[et,List.any_append,hno,List.any_cons,c];rfl
    refine eN (fun c2=>?_) (fun c2=>?_)
    .walk_at "go"
     refine⟨tyL hq3,?_⟩
     walk_at "go"
     refine Q8 hq3 (by lia) ?_
     walk_at "go"
     refine⟨lV s3 nq,hno2,⟨_,aH,?_,by rw[List.length_append,List.length_singleton];lia⟩,_,_,rfl⟩
     rw[et,List.filter_append,List.filter_cons,if_pos c2]
     exact hus.append (.cons hT .nil)
    .walk_at "go"
     refine⟨s3,hno2,⟨_,hq3,?_,by lia⟩,_,_,rfl⟩
     rw[et,List.filter_append,List.filter_cons,if_neg c2]
     simpa using hus
  .rintro σ H2 ⟨s2,hno,⟨us,hq2,hus,hul⟩,x2,x3,rfl⟩
   rw[hvl,List.take_length] at hno hus
   walk_at "go"
   refine k _ H2 s2 ⟨q,us,rfl,hq2,?_⟩
   have h1:=aAg l [] hno
   rw[List.append_nil,show begun []=[] from rfl,List.append_nil] at h1
   rw[h1]
   exact hus.mono s2
noncomputable def aNe (g:Glue)(h:Int):Glue:=⟨max 0 (g.size-h),g.stretch,g.so,g.shrink,g.sho⟩
noncomputable def bE6:Sp:=fun vs H Q _=>Ex3_ fun u g(h:Int)=>And3_ (vs=[u,.int h]) (Th H u (.glue g)) (∀v H',Same H H'->Th H' v (.glue (aNe g h))->Q v H')
theorem aKa:bJ P w K mg base (CXE P w) 1 M.tW.f M.tW.fd yX bE6:=by
 refine M.tW.F.okE X6 (fun vs H Q E h=>?_) (fun cdv A outer s H vs Q E hr h=>?_)
 .obtain⟨_,_,_,rfl,_⟩:=h
  rfl
 .obtain⟨u,g,hh,rfl,hT,k⟩:=h
  refine⟨_,(aB (bF (i:=2) X6.nd rfl (Or.inl rfl) (aGv aDj rfl M.aP5 boot_dict (aA (pv 0) aD)))
   (aB (aBz (bO hr) (pv 2) aN (dF (R7 rfl) rfl M.aMn boot_max (aA aQ (aA (cN sZ (aZ (bO hr) (pv 0) aN (fun _ _=>rfl)) (pv 1)) aD))) rfl)
   (aG (aP (pv 2))))),?_⟩
  try dsimp only[aFc]
  obtain⟨a,kvs,rfl,ha,kv⟩:=hT.kv
  obtain rfl:kvs=_:=kv
  walk_at "go"
  refine⟨a,_,rfl,ha,fun p np=>?_⟩
  have s1:=aU np (.dK [(kk "kind",.str "glue"),(kk "size",.int g.size),(kk "stretch",.int g.stretch),(kk "stretch order",.int g.so),(kk "shrink",.int g.shrink),(kk "shrink order",.int g.sho)])
  have ha1:=s1 _ _ ha
  walk_at "go"
  rw[aXm]
  refine⟨p,_,rfl,aIh.k (k:=kk "size") aH (by show 6<sizeLine;decide),?_⟩
  walk_at "go"
  rw[gD]
  refine k _ _ (aU np _) (Th.mk aH ?_)
  rfl
noncomputable def bFb:Sp:=fun vs H Q _=>Ex4_ fun u l x g=>And5_ (vs=[u,x]) (LAt H u l) (l.length<=100000) (Th H x (.glue g)) (∀v H',Same H H'->LAt H' v (topped g l)->Q v H')
theorem S9:bJ P w K mg base (CXE P w) 2 M.iB.f M.iB.fd m7 bFb:=by
 refine M.iB.F.okE p7 (fun vs H Q E h=>?_) (fun cdv A outer s H vs Q E hr h=>?_)
 .obtain⟨_,_,_,_,rfl,_⟩:=h
  rfl
 .obtain⟨u,l,x,g,rfl,⟨a,vs,rfl,ha,hv⟩,hlen,hG,k⟩:=h
  refine⟨_,(aB (lM PassesOwn.«leaving» rfl (aQi rfl M.Q9 (aA (pv 0) aD)) (M8 (n:=2) rfl (gW (cV (i:=2) p7.nd rfl (Or.inl rfl)) (gW (cV (i:=3) p7.nd rfl (Or.inl rfl)) yM))) (aG (bR (nZ (aJ (nY M) (hr.mono (by walk_at "o")) rfl M.cO.m M.cO.k M.cO.b .nil aC (aA (pv 3) aD))) (aG (aP (cN U6 (cN U6 (pD uE (pv 0) wA (qX (pv 2))) (cX (aA (aJ (aKa M) (hr.mono (by walk_at "o")) rfl M.tW.m M.tW.k M.tW.b .nil aC (aA (pv 1) (aA (aJ (eV M) (hr.mono (by walk_at "o")) rfl M.bT.m M.bT.k M.bT.b .nil aC (aA (aZ (bO hr) (pv 3) aN (fun _ _=>rfl)) aD)) aD))) aD))) (pD uE (pv 0) (qX (pv 2)) wA)))) bC)))
   (aG (aP (pv 0)))),?_⟩
  try dsimp only[aFc]
  have hvl:=hv.len
  have hb:=(by decide:(10000000:Nat)<=sizeLine)
  walk_at "go"
  refine aV3 ?_
  walk_at "go"
  refine⟨a,vs,rfl,SqL.of ha,?_⟩
  refine bE5 (xs:=vs) (fun i σ H'=>Same H H'/\(∀u∈l.take i,solid u=none)/\ ∃x2 x3,σ=[some (.ref a),some x,x2,x3]) ⟨.refl H,fun u hu=>by simp at hu,none,none,rfl⟩ (fun i σ H' p=>SqL.of (p.1 _ _ ha)) ?_ ?_
  .rintro i v σ H2 T hi ⟨s2,hno,x2,x3,rfl⟩ nT
   have s3:Same H (upd H2 T (.tup [.int (i:Nat),v])):=s2.trans (aU nT _)
   obtain⟨t,ht,hT⟩:=hv.at_ hi
   have et:=(iQ ht).2
   have es:=(iQ ht).1
   have hil:=(List.getElem?_eq_some_iff.mp ht).1
   refine aNd (SqT.of aH) ?_
   walk_at "go"
   refine⟨v,t,rfl,hT.mono s3,?_⟩
   walk_at "go"
   refine eN (fun c=>?_) (fun c=>?_)
   .obtain⟨y,hy⟩:=Option.isSome_iff_exists.mp c
    have etop:topped g l=l.take i++ .glue (aNe g y.1)::l.drop i:=by
     have hd:l.drop i=t::l.drop (i+1):=by
      have h2:=List.getElem?_eq_some_iff.mp ht
      rw[<- h2.2]
      exact List.drop_eq_getElem_cons h2.1
     have h1:topped g l=topped g (l.take i++t::l.drop (i+1)):=by rw[<- es]
     rw[h1,aEk g _ t _ y hno hy,hd]
     rfl
    rw[etop] at k
    obtain⟨b,kvs,rfl,hbk,kv⟩:=(hT.mono s3).kv
    have fin: ∀z Hz,Same (upd H2 T (.tup [.int (i:Nat),.ref b])) Hz->Hz z=some (.lst (vs.take i))-> ∀gl H4,Same Hz H4->Th H4 gl (.glue (aNe g y.1))-> ∀q,H4 q=none-> ∀q2,upd H4 q (.lst [gl]) q2=none-> ∀q3,upd (upd H4 q (.lst [gl])) q2 (.lst (vs.take i++[gl])) q3=none-> ∀q4,upd (upd (upd H4 q (.lst [gl])) q2 (.lst (vs.take i++[gl]))) q3 (.lst (vs.drop i)) q4=none->
      Q (.ref q4) (upd (upd (upd (upd H4 q (.lst [gl])) q2 (.lst (vs.take i++[gl]))) q3 (.lst (vs.drop i))) q4 (.lst ((vs.take i++[gl])++vs.drop i))):=by
     intro z Hz sz hz gl H4 s4 hgl q nq q2 nq2 q3 nq3 q4 nq4
     have st:Same H4 _:=((aU nq (.lst [gl])).trans (aU nq2 (.lst (vs.take i++[gl])))).trans ((aU nq3 (.lst (vs.drop i))).trans (aU nq4 (.lst ((vs.take i++[gl])++vs.drop i))))
     have sH:Same H _:=(s3.trans (sz.trans s4)).trans st
     refine k _ _ sH ⟨q4,_,rfl,aH,?_⟩
     have e9:l.take i++ .glue (aNe g y.1)::l.drop i=(l.take i++[.glue (aNe g y.1)])++l.drop i:=by rw[List.append_assoc];rfl
     rw[e9]
     exact(((hv.take i).mono sH).append (.cons (hgl.mono st) .nil)).append ((hv.drop i).mono sH)
    have rest: ∀hh:Int,y.1=hh->(∀Q':VK,True)->True:=fun _ _ _=>trivial
    walk_at "go"
    refine Q7 (SqL.of (s3 _ _ ha)) fun z nz=>?_
    rw[aEj]
    have sz:=aU nz (.lst (vs.take i))
    have hbz:=sz _ _ hbk
    walk_at "go"
    cases t with
    |rule w' h' d'=>
     obtain rfl:kvs=_:=kv
     cases hy
     walk_at "go"
     refine⟨h',rfl,?_⟩
     walk_at "go"
     refine⟨_,g,_,rfl,(hG.mono s3).mono sz,fun gl H4 s4 hgl=>?_⟩
     walk_at "go"
     refine⟨by show 1<=sizeLine;decide,fun q nq=>?_⟩
     refine Y5 (aU nq _ _ _ (s4 _ _ aH)) aH (by rw[List.length_take,List.length_singleton];lia) fun q2 nq2=>?_
     walk_at "go"
     refine Q7 (SqL.of ((((s3.trans sz).trans s4).trans (aU nq _)).trans (aU nq2 _) _ _ ha)) fun q3 nq3=>?_
     rw[aEi] at*
     refine Y5 (aU nq3 _ _ _ aH) aH (by rw[List.length_append,List.length_take,List.length_drop,List.length_singleton];lia) fun q4 nq4=>?_
     exact fin z _ sz aH gl H4 s4 hgl q nq q2 nq2 q3 nq3 q4 nq4
    |box cc w' h' d' s' sh l2=>
     obtain⟨u2,hu2,rfl⟩:=kv
     cases hy
     walk_at "go"
     refine⟨some h',rfl,?_⟩
     walk_at "go"
     refine⟨_,g,_,rfl,(hG.mono s3).mono sz,fun gl H4 s4 hgl=>?_⟩
     walk_at "go"
     refine⟨by show 1<=sizeLine;decide,fun q nq=>?_⟩
     refine Y5 (aU nq _ _ _ (s4 _ _ aH)) aH (by rw[List.length_take,List.length_singleton];lia) fun q2 nq2=>?_
     walk_at "go"
     refine Q7 (SqL.of ((((s3.trans sz).trans s4).trans (aU nq _)).trans (aU nq2 _) _ _ ha)) fun q3 nq3=>?_
     rw[aEi] at*
     refine Y5 (aU nq3 _ _ _ aH) aH (by rw[List.length_append,List.length_take,List.length_drop,List.length_singleton];lia) fun q4 nq4=>?_
     exact fin z _ sz aH gl H4 s4 hgl q nq q2 nq2 q3 nq3 q4 nq4
    |_=>cases hy
   .have c:solid t=none:=by
     cases e:solid t with
     |none=>rfl
     |some y=>exact absurd (by rw[e];rfl) c
    walk_at "go"
    refine⟨s3,fun u hu=>?_,_,_,rfl⟩
    rw[et,List.mem_append] at hu
    rcases hu with z|z
    .exact hno u z
    .simp at z
     subst z
     exact c
  .rintro σ H2 ⟨s2,hno,x2,x3,rfl⟩
   rw[hvl,List.take_length] at hno
   walk_at "go"
   refine k _ H2 s2 ⟨a,vs,rfl,s2 _ _ ha,?_⟩
   rw[aB7 g l hno]
   exact hv.mono s2
noncomputable def yJ (l:List Thing):List Thing:=(l.filter moves).flatMap outOf
noncomputable def TX (l:List Thing):List Thing:=l.filter fun t=> !moves t
theorem aAh (l:List Thing)(t:Thing):yJ (l++[t])=yJ l++if moves t=true then outOf t else []:=by
 unfold yJ
 rw[List.filter_append,List.flatMap_append,List.filter_cons]
 split <;>simp
theorem aT9 (t:Thing):decide (V.str (kindS t)=V.str "adjust")=(match t with| .adjust _=>true|_=>false):=by cases t <;>rfl
theorem aYe (l:List Thing):(yJ l).length<=szL l:=by
 refine snoc_ind (p:=fun l=>(yJ l).length<=szL l) (Nat.zero_le _) (fun l t ih=>?_) l
 rw[aAh,List.length_append,iC,fO,wM]
 have hp:=wN t
 split
 .cases t with
  |adjust r=>
   have h1:=aP7 r
   have h2:szL r<szT (.adjust r):=by
    unfold szT szL
    rw[M.rawOf,M.tl]
    simp only[M.jP,M.tlF,M.tlV,List.length_append,List.length_cons,List.length_nil]
    lia
   show (yJ l).length+r.length<=_
   lia
  |_=>
   show (yJ l).length+1<=_
   lia
 .show (yJ l).length+0<=_
  lia
noncomputable def bFc:Sp:=fun vs H Q _=>Ex2_ fun u l=>And4_ (vs=[u]) (LAt H u l) (Bd l) (∀v H',Same H H'->LAt H' v (yJ l)->Q v H')
theorem YT:bJ P w K mg base (CXE P w) 1 M.jH.f M.jH.fd oM bFc:=by
 refine M.jH.F.okE rG (fun vs H Q E h=>?_) (fun cdv A outer s H vs Q E hr h=>?_)
 .obtain⟨_,_,rfl,_⟩:=h
  rfl
 .obtain⟨u,l,rfl,⟨a,vs,rfl,ha,hv⟩,hB,k⟩:=h
  have tM:=M.aDp
  refine⟨_,(aB (bF (i:=1) rG.nd rfl (Or.inl rfl) (cX aD))
   (aB (lM PassesOwn.«leaving» rfl (nM (pv 0)) (cV (i:=2) rG.nd rfl (Or.inl rfl)) (aG (bR (aW cT (aZ (bO hr) (pv 2) aN (fun _ _=>rfl)) aN (bD _)) (aG (bQ (vY PySem.F.plainAttrs_list PySem.F.slot_list_extend PySem.F.type_list_extend mV (pv 1) (aA (aZ (bO hr) (pv 2) aN (fun _ _=>rfl)) aD)))) (aG (bR (aW DN (aZ (bO hr) (pv 2) aN (fun _ _=>rfl)) (pR (v:= .ref M.QC) rfl M.aDo rfl) rfl) (aG (bQ (vY PySem.F.plainAttrs_list PySem.F.slot_list_append PySem.F.type_list_append DP (pv 1) (aA (pv 2) aD)))) bC)))))
   (aG (aP (pv 1))))),?_⟩
  try dsimp only[aFc]
  have hb:=(by decide:(10000000:Nat)<=sizeLine)
  walk_at "go"
  refine⟨Nat.zero_le _,fun q nq=>?_⟩
  have s1:=aU nq (.lst [])
  walk_at "go"
  refine vR ?_
  walk_at "go"
  refine⟨a,rfl,⟨_,SqL.of (s1 _ _ ha)⟩,aSq ha hv (fun pre σ H'=>Same H H'/\(∃us,H' q=some (.lst us)/\Ths H us (yJ pre))/\ ∃x,σ=[some (.ref a),some (.ref q),x]) ⟨s1,⟨[],aH,.nil⟩,none,rfl⟩ (fun _ _ _ p=>p.1) ?_ ?_⟩
  .rintro pre t rest v σ H2 el hT s2 ⟨_,⟨us,hq2,hus⟩,x,rfl⟩
   have hT2:=hT.mono s2
   obtain⟨b,r,rfl,hbk⟩:=hT2.kd
   have hbd:Bd (pre++[t]):=hB.pre (rest:=rest) (by rw[el,List.append_assoc];rfl)
   have hol:=aYe (pre++[t])
   have hsz:=hbd.sz
   have hsn:=aAh pre t
   rw[hsn,List.length_append] at hol
   have hul:=hus.len
   walk_at "go"
   rw[aT9]
   cases t with
   |adjust r'=>
    obtain⟨b3,kvs3,e3,hb3,u3,⟨la3,lvs3,rfl,hla3,hlv3⟩,rfl⟩:=hT.kv
    cases e3
    clear hbk
    have hb2:=s2 _ _ hb3
    have hll:=hlv3.len
    have hla':H2 la3=some (.lst lvs3):=s2 _ _ hla3
    walk_at "go"
    refine⟨tyL hq2,?_⟩
    walk_at "go"
    have hol':(yJ pre).length+r'.length<=szL (pre++[.adjust r']):=hol
    refine Y6 hq2 hla' (by lia) ?_
    walk_at "go"
    refine⟨lV s2 nq,⟨_,aH,?_⟩,_,rfl⟩
    rw[hsn]
    exact hus.append hlv3
   |_=>
    walk_at "go"
    first
     |(refine⟨tyL hq2,?_⟩
       walk_at "go"
       refine Q8 hq2 (by lia) ?_
       walk_at "go"
       refine⟨lV s2 nq,⟨_,aH,?_⟩,_,rfl⟩
       rw[hsn]
       exact hus.append (.cons hT .nil))
     |(refine⟨s2,⟨_,hq2,?_⟩,_,rfl⟩
       rw[hsn]
       show Ths H us (yJ pre++[])
       rw[List.append_nil]
       exact hus)
  .rintro σ H2 ⟨s2,⟨us,hq2,hus⟩,x,rfl⟩
   walk_at "go"
   exact k _ H2 s2 ⟨q,us,rfl,hq2,hus.mono s2⟩
noncomputable def bE7:Sp:=fun vs H Q _=>Ex2_ fun u l=>And4_ (vs=[u]) (LAt H u l) (l.length<=100000) (∀v H',Same H H'->LAt H' v (TX l)->Q v H')
theorem aG6:bJ P w K mg base (CXE P w) 1 M.qK.f M.qK.fd wI bE7:=by
 refine M.qK.F.okE BR (fun vs H Q E h=>?_) (fun cdv A outer s H vs Q E hr h=>?_)
 .obtain⟨_,_,rfl,_⟩:=h
  rfl
 .obtain⟨u,l,rfl,⟨a,vs,rfl,ha,hv⟩,hlen,k⟩:=h
  have tM:=M.aDp
  refine⟨_,(aG (aP (aGw (own:=[("thing",1)]) rfl BR.nd (nM (pv 0)) aEm (fun _ _ _ _ _=>(cV (i:=1) BR.nd rfl (Or.inl rfl))) (fun _ _ _ _ _=>(aX1 (aW (show OpR _ _ (rIn K true) from HN) (aZ (bO hr) (pv 1) aN (fun _ _=>rfl)) (pR (v:= .ref M.QC) rfl M.aDo rfl) rfl))) (fun _ _ _ _ _=>(pv 1))))),?_⟩
  try dsimp only[aFc]
  have hvl:=hv.len
  have hb:=(by decide:(10000000:Nat)<=sizeLine)
  walk_at "go"
  refine aZu ?_
  walk_at "go"
  refine⟨a,rfl,⟨_,SqL.of ha⟩,fun D nD=>?_⟩
  refine aQf (xs:=vs) (fun i H'=>Same H H'/\ ∃us,H' D=some (.lst us)/\Ths H us (TX (l.take i))/\us.length<=i) ⟨aU nD _,[],aH,.nil,Nat.zero_le _⟩ (fun i H' _ p=>SqL.of (p.1 _ _ ha)) (fun i v H' hi⟨s1,us,hD,hus,hul⟩=>?_) (fun H'⟨s1,us,hD,hus,hul⟩=>?_)
  .obtain⟨t,ht,hT⟩:=hv.at_ hi
   obtain⟨b,r,rfl,hbk⟩:=(hT.mono s1).kd
   have et:=(iQ ht).2
   have hil:=(List.getElem?_eq_some_iff.mp ht).1
   have hsn:TX (l.take (i+1))=TX (l.take i)++if(!moves t)=true then [t] else []:=by
    unfold TX
    rw[et,List.filter_append,List.filter_cons]
    rfl
   walk_at "go"
   refine⟨rfl,?_⟩
   walk_at "go"
   rw[show (if true=true then !inV (V.str (kindS t)) [V.str "insertion",V.str "mark",V.str "adjust"] else _)= !moves t from congrArg (!·) (aT7 t)]
   refine eN (fun c=>?_) (fun c=>?_)
   .rw[if_pos c] at hsn
    walk_at "go"
    refine⟨_,hD,by lia,lV s1 nD,_,aH,?_,by rw[List.length_append,List.length_singleton];lia⟩
    rw[hsn]
    exact hus.append (.cons hT .nil)
   .rw[if_neg c,List.append_nil] at hsn
    refine⟨s1,_,hD,?_,by lia⟩
    rw[hsn]
    exact hus
  .rw[hvl,List.take_length] at hus
   exact k _ H' s1 ⟨D,us,rfl,hD,hus.mono s1⟩
end
end Pr
end
section
namespace Pr
open PySem PySem.Spec PyProof.Rows L2 SbThing SbPack
theorem aRl {cost:Nat->Option Int}{forced:Nat->Bool}(P:Nat->Prop): ∀(bs:List Nat)(st:Option (Nat×Int)),(∀b∈bs,P b)->(∀x,st=some x->P x.1)->(bs≠[]\/st≠none)->P (VR cost forced bs st)
 |[],st,_,hs,hn=>by
  cases st with
  |none=>rcases hn with z|z <;>exact absurd rfl z
  |some x=>exact hs x rfl
 |i::r,st,hb,hs,_=>by
  have hp: ∀c,P (pick st (i,c)).1:=fun c=>by
   cases st with
   |none=>exact hb i (by simp)
   |some y=>
    show P (if c<=y.2 then(i,c) else y).1
    split
    .exact hb i (by simp)
    .exact hs y rfl
  rw[VR]
  split
  .cases st with
   |none=>exact hb i (by simp)
   |some x=>exact hs x rfl
  .rename_i c _
   split
   .exact hp c
   .exact aRl P r _ (fun b hb'=>hb b (by simp[hb'])) (fun x e=>by cases e;exact hp c) (.inr (by simp))
theorem aHr (v g:Int)(l:List Thing):cutAt v g l=l.length\/isBreak l (cutAt v g l)=true:=by
 rw[aAf]
 refine aRl (fun b=>b=l.length\/isBreak l b=true) _ _ (fun b hb=>?_) (fun x e=>by cases e) (.inl ?_)
 .unfold W2 at hb
  rw[if_pos (Nat.zero_le _)] at hb
  rcases List.mem_append.mp hb with z|z
  .exact .inr (List.mem_filter.mp z).2
  .simp at z
   exact .inl z
 .unfold W2
  rw[if_pos (Nat.zero_le _)]
  simp
theorem aG7 {l:List Thing}{i:Nat}{t:Thing}(h:isBreak l i=true)(ht:l[i]?=some t):dropped t=true:=by
 unfold isBreak at h
 rw[ht] at h
 cases t with
 |kern _=>rfl
 |penalty _=>rfl
 |glue _=>rfl
 |leaders _ _ _=>rfl
 |_=>cases h
theorem aNf (v g:Int)(l:List Thing):l.drop (if cutAt v g l<l.length/\dropped (l.getD (cutAt v g l) (.kern 0))=true then cutAt v g l+1 else cutAt v g l)=l.drop (cutAt v g l+1):=by
 have hle:=aW8 v g l
 rcases aHr v g l with e|e
 .rw[if_neg (by lia),List.drop_of_length_le (by lia),List.drop_of_length_le (by lia)]
 .rcases Nat.lt_or_ge (cutAt v g l) l.length with z|z
  .have ht:=List.getElem?_eq_getElem z
   have hd:=aG7 e ht
   have hd2:dropped (l.getD (cutAt v g l) (.kern 0))=true:=by
    rw[List.getD_eq_getElem?_getD,ht]
    exact hd
   rw[if_pos ⟨z,hd2⟩]
  .rw[if_neg (by lia),List.drop_of_length_le (by lia),List.drop_of_length_le (by lia)]
theorem aYf (v g:Int)(l:List Thing):aBr l (cutAt v g l)=some (penaltyAt l (cutAt v g l)):=by
 unfold aBr
 rcases aHr v g l with e|e
 .rw[if_pos e,e,aRk]
 .by_cases e2:cutAt v g l=l.length
  .rw[if_pos e2,e2,aRk]
  .rw[if_neg e2,if_pos e]
section
variable{P:Program}{w:World}{K:PySem.W.Frag}{mg:Str->Option Value}{base:Heap}(M:Md w K mg)
noncomputable def ctf (p:Int)(u r:V):List (Str×V):=[("penalty",.int p),("upper_part",u),("rest",r)]
noncomputable def bE8 (C:Addr):Sp:=fun vs H Q _=>Ex8_ fun p dx u l(v g:Int) vg gl=>And8_ (vs=[.ref p,u,.int v,.int g,vg]) (H p=some (.ins C dx [])) (LAt H u l) (Bd l) ((-1073741823<=v/\v<=1073741823)) ((-1073741823<=g/\g<=1073741823)) (Th H vg (.glue gl)) (∀vu vr H',H' p=some (.ins C dx (ctf (SbPack.cut v g gl l).penalty vu vr))->LAt H' vu (SbPack.cut v g gl l).upper->LAt H' vr (SbPack.cut v g gl l).rest->Sb p H H'->Q .non H')
theorem aNg:bJ P w K mg base (CXE P w) 7 M.G4.f M.G4.fd J8 (bE8 M.YC.C):=by
 refine M.G4.F.okE vC (fun vs H Q E h=>?_) (fun cdv A outer s H vs Q E hr h=>?_)
 .obtain⟨_,_,_,_,_,_,_,_,rfl,_⟩:=h
  rfl
 .obtain⟨p,dx,u,l,v,g,vg,gl,rfl,hp,⟨a,vs,rfl,ha,hv⟩,hB,hvv,hg,hG,k⟩:=h
  have c:=M.YC.c
  have n1:=M.K6
  have n2:=M.vQ
  have n3:=M.aA9
  have tS:=M.aA7
  refine⟨_,(aB (bF (i:=5) vC.nd rfl (Or.inl rfl) (aJ (aEh M) (hr.mono (by walk_at "o")) rfl M.oF.m M.oF.k M.oF.b .nil aC (aA (pv 1) (aA (pv 2) (aA (pv 3) aD)))))
   (aB (bF (i:=6) vC.nd rfl (Or.inl rfl) (aJ (W3 M) (hr.mono (by walk_at "o")) rfl M.iZ.m M.iZ.k M.iZ.b .nil aC (aA (pD uE (pv 1) (qX (cN fH (pv 5) aQ)) wA) aD)))
   (aB (fW (pv 0) (aJ (TV M) (hr.mono (by walk_at "o")) rfl M.kZ.m M.kZ.k M.kZ.b .nil aC (aA (pv 1) (aA (pv 5) aD))) rfl)
   (aG (bR (nZ (dF (aSo hr.hd) rfl M.aZg boot_any (aA (aGw (own:=[("thing",7)]) rfl vC.nd (nM (pv 6)) aK9 (fun _ _ _ _ _=>(cV (i:=7) vC.nd rfl (Or.inl rfl))) (fun _ _ _ _ _=>WK) (fun _ _ _ _ _=>(HJ (show OpR _ _ (rIn K false) from DN) (aZ (bO hr) (pv 7) aN (fun _ _=>rfl)) (pR (v:= .ref M.FZ) rfl M.aA6 rfl) rfl))) aD))) (aB (fW (pv 0) (pD uE (pv 1) wA (qX (pv 5))) rfl)
   (aG (fW (pv 0) (aJ (S9 M) (hr.mono (by walk_at "o")) rfl M.iB.m M.iB.k M.iB.b .nil aC (aA (pv 6) (aA (pv 4) aD))) rfl))) (aB (fW (pv 0) (cN U6 (pD uE (pv 1) wA (qX (pv 5))) (pv 6)) rfl)
   (aG (fW (pv 0) (cX aD) rfl)))))))),?_⟩
  try dsimp only[aFc]
  have hln:=hB.len
  have hvl:=hv.len
  have hbg:=(by decide:(10000000:Nat)<=sizeLine)
  have hle:=aW8 v g l
  have ecut:SbPack.cut v g gl l=(if(begun (l.drop (cutAt v g l+1))).any holds=true then⟨l.take (cutAt v g l),topped gl (begun (l.drop (cutAt v g l+1))),penaltyAt l (cutAt v g l)⟩ else⟨l.take (cutAt v g l)++begun (l.drop (cutAt v g l+1)),[],penaltyAt l (cutAt v g l)⟩):=by
   unfold SbPack.cut
   simp only[aNf]
  rw[ecut] at k
  have epen:=aYf v g l
  walk_at "go"
  refine⟨_,l,v,g,rfl,⟨a,vs,rfl,ha,hv⟩,hB,hvv,hg,fun H1 s1=>?_⟩
  generalize cutAt v g l=i at*
  walk_at "go"
  refine Q7 (SqL.of (s1 _ _ ha)) fun z nz=>?_
  rw[show (i:Int)+1=((i+1:Nat):Int) by lia,aEi]
  have s2:=s1.trans (aU nz (.lst (vs.drop (i+1))))
  walk_at "go"
  refine⟨_,l.drop (i+1),rfl,⟨z,_,rfl,aH,(hv.drop (i+1)).mono s2⟩,by rw[List.length_drop];lia,fun v3 H3 s3' hL3=>?_⟩
  have s3:=s2.trans s3'
  have hp3:=s3 _ _ hp
  walk_at "go"
  refine⟨_,l,i,rfl,⟨a,vs,rfl,s3 _ _ ha,hv.mono s3⟩,hle,?_⟩
  rw[epen,show piV (some (penaltyAt l i))=V.int (penaltyAt l i) from rfl]
  walk_at "go"
  generalize hH4:upd H3 p (.ins M.YC.C dx (lX "penalty" (.int (penaltyAt l i)) []))=H4
  have kp4:Kp H3 H4:=by rw[<- hH4];exact Kp.ins hp3
  have hp4:H4 p=some (.ins M.YC.C dx [("penalty",.int (penaltyAt l i))]):=by rw[<- hH4,aH];rfl
  have sb4:Sb p H H4:=fun b o e ne=>by rw[<- hH4,aM ne];exact s3 b o e
  have hL4:=hL3.kp kp4
  have ha4:H4 a=some (.lst vs):=kp4 _ _ (s3 _ _ ha) rfl
  have hv4:Ths H4 vs l:=(hv.mono s3).kp kp4
  have hG4:Th H4 vg (.glue gl):=(hG.mono s3).kp kp4
  clear hH4
  obtain⟨ba,bvs,rfl,hba,hbv⟩:=id hL4
  have hbl:=hbv.len
  have hbl2:(begun (l.drop (i+1))).length<=2000:=by
   have: ∀r:List Thing,(begun r).length<=r.length:=fun r=>by
    induction r with
    |nil=>exact Nat.le_refl _
    |cons t r ih=>
     rw[begun]
     split
     .exact Nat.le_refl _
     .split
      .rw[List.length_cons];lia
      .rw[List.length_cons,List.length_cons];lia
   have h1:=this (l.drop (i+1))
   rw[List.length_drop] at h1
   lia
  generalize begun (l.drop (i+1))=bh at*
  refine aZu ?_
  walk_at "go"
  refine⟨ba,rfl,⟨_,SqL.of hba⟩,fun D nD=>?_⟩
  refine aQf (xs:=bvs) (fun j H'=>Same H4 H'/\H' D=some (.lst (((bh.take j).map holds).map V.bl))) ⟨aU nD _,aH⟩ (fun j H' _ p=>SqL.of (p.1 _ _ hba)) (fun j y H' hj⟨s5,hD⟩=>?_) (fun H5⟨s5,hD⟩=>?_)
  .obtain⟨t,ht,hT⟩:=hbv.at_ hj
   obtain⟨b,r,rfl,hbk⟩:=(hT.mono s5).kd
   have et:=(iQ ht).2
   have hjl:=(List.getElem?_eq_some_iff.mp ht).1
   walk_at "go"
   refine⟨rfl,?_⟩
   refine bBu ?_
   walk_at "go"
   rw[show (if false=true then _ else inV (V.str (kindS t)) [V.str "box",V.str "rule",V.str "insertion"])=holds t from aEf t]
   refine⟨_,hD,by rw[List.length_map,List.length_map,List.length_take];lia,lV s5 nD,?_⟩
   rw[aH,et,List.map_append,List.map_append]
   rfl
  .rw[hbl,List.take_length] at hD
   have hp5:=s5 _ _ hp4
   walk_at "go"
   refine⟨D,bh.map holds,rfl,hD,?_⟩
   walk_at "go"
   have eany:(bh.map holds).any id=bh.any holds:=by rw[List.any_map];rfl
   rw[eany]
   refine eN (fun c=>?_) (fun c=>?_)
   .rw[if_pos c] at k
    walk_at "go"
    refine Q7 (SqL.of (s5 _ _ ha4)) fun q nq=>?_
    rw[aEj]
    have s6:=s5.trans (aU nq (.lst (vs.take i)))
    have hp6:=s6 _ _ hp4
    walk_at "go"
    generalize hH7:upd (upd H5 q (.lst (vs.take i))) p (.ins M.YC.C dx (lX "upper_part" (.ref q) [("penalty",.int (penaltyAt l i))]))=H7
    have npq:q≠p:=fun e=>by subst e;rw[s5 _ _ hp4] at nq;cases nq
    have kp7:Kp (upd H5 q (.lst (vs.take i))) H7:=by rw[<- hH7];exact Kp.ins hp6
    have hp7:H7 p=some (.ins M.YC.C dx [("penalty",.int (penaltyAt l i)),("upper_part",.ref q)]):=by rw[<- hH7,aH];rfl
    have sb7:Sb p H H7:=fun b o e ne=>by rw[<- hH7,aM ne];exact s6 _ _ (sb4 b o e ne)
    have hu7:LAt H7 (.ref q) (l.take i):=LAt.kp ⟨q,_,rfl,aH,(hv4.take i).mono s6⟩ kp7
    have hL7:LAt H7 (.ref ba) bh:=(hL4.mono s6).kp kp7
    have hG7:Th H7 vg (.glue gl):=(hG4.mono s6).kp kp7
    clear hH7
    refine⟨_,bh,vg,gl,rfl,hL7,by lia,hG7,fun v8 H8 s8 h8=>?_⟩
    have hp8:=s8 _ _ hp7
    walk_at "go"
    refine k (.ref q) v8 _ ?_ ((hu7.mono s8).kp (Kp.ins hp8)) (h8.kp (Kp.ins hp8)) (fun b o e ne=>by rw[aM ne];exact s8 _ _ (sb7 b o e ne))
    rw[aH]
    rfl
   .rw[if_neg c] at k
    walk_at "go"
    refine Q7 (SqL.of (s5 _ _ ha4)) fun q nq=>?_
    rw[aEj]
    have s6:=s5.trans (aU nq (.lst (vs.take i)))
    walk_at "go"
    refine Y5 aH (s6 _ _ hba) (by rw[List.length_take];lia) fun q2 nq2=>?_
    have s7:=s6.trans (aU nq2 (.lst (vs.take i++bvs)))
    have hp7:=s7 _ _ hp4
    walk_at "go"
    have npq:q2≠p:=fun e=>by subst e;rw[s6 _ _ hp4] at nq2;cases nq2
    have hu7:LAt (upd (upd H5 q (.lst (vs.take i))) q2 (.lst (vs.take i++bvs))) (.ref q2) (l.take i++bh):=⟨q2,_,rfl,aH,((hv4.take i).append hbv).mono s7⟩
    refine⟨Nat.zero_le _,fun q3 nq3=>?_⟩
    have s8:=aU nq3 (.lst [])
    have hp8:=s8 p _ aH
    walk_at "go"
    have kp8:=Kp.ins (o:= .ins M.YC.C dx (lX "upper_part" (.ref q2) [("penalty",.int (penaltyAt l i))])) hp7
    refine k (.ref q2) (.ref q3) _ ?_ (((hu7.kp kp8).mono s8).kp (Kp.ins hp8)) (LAt.kp ⟨q3,[],rfl,aH,.nil⟩ (Kp.ins hp8)) (fun b o e ne=>?_)
    .rw[aH]
     rfl
    .rw[aM ne]
     exact s8 _ _ ((aM ne).trans (s7 _ _ (sb4 b o e ne)))
end
end Pr
end
section
namespace Pr
open PySem PySem.Spec PyProof.Rows L2 SbThing SbPack
noncomputable def LL (H:Hp)(la:Addr):Prop:=Ex3_ fun(a0:Addr)(rest xs:List V)=>And2_ (H la=some (.lst (.ref a0::rest))) (H a0=some (.lst xs))
section
variable{H:Hp}{la:Addr}(L:LL H la)
include L
mutual
theorem eX.aEn: ∀{v:V}{r:M.Raw},eX T0 H v r->eX (fun b=>b≠la) H v r
 |_,_,.mk _ h hf=> .mk (fun z=>by obtain⟨a0,rest,xs,h1,_⟩:=L;subst z;rw[h] at h1;cases h1) h (bV.aEn hf)
theorem bV.aEn: ∀{kvs:List (Key×V)}{fs:M.gP},bV T0 H kvs fs->bV (fun b=>b≠la) H kvs fs
 |_,_,.nil=> .nil
 |_,_,.cons h t=> .cons (gZ.aEn h) (bV.aEn t)
theorem gZ.aEn: ∀{v:V}{x:M.FV},gZ T0 H v x->gZ (fun b=>b≠la) H v x
 |_,_,.int=> .int
 |_,_,.sd0=> .sd0
 |_,_,.sd1=> .sd1
 |_,_,.lst _ h t=> .lst (fun z=>by
   obtain⟨a0,rest,xs,h1,h2⟩:=L
   subst z
   rw[h] at h1
   cases h1
   cases t with
   |cons hr _=>
    cases hr with
    |mk _ h3 _=>
     rw[h2] at h3
     cases h3) h (d7.aEn t)
 |_,_,.thing h=> .thing (eX.aEn h)
theorem d7.aEn: ∀{vs:List V}{l:M.fD},d7 T0 H vs l->d7 (fun b=>b≠la) H vs l
 |_,_,.nil=> .nil
 |_,_,.cons h t=> .cons (eX.aEn h) (d7.aEn t)
end
end
theorem LAt.aNh {H:Hp}{la:Addr}{v:V}{l:List Thing}{o:HO}(h:LAt H v l)(L:LL H la):LAt (upd H la o) v l:=
 gZ.aJl (gZ.imp (fun b u hb e=>⟨trivial,(aM hb).trans e⟩) (gZ.aEn L h.fv))
structure mL (C:Addr)(H:Hp)(d la:Addr)(S:List (List Thing)):Prop where
 ob: ∃dx,H d=some (.ins C dx [("lists",.ref la)])
 ex: ∃vs,H la=some (.lst vs)/\vs.length=8/\ ∀k v,vs[k]?=some v->LAt H v (S.getD k [])
 len:S.length=8
 kp: ∀k,SbSpec.keeps (S.getD k [])=true
theorem mL.mono {C:Addr}{H H':Hp}{d la:Addr}{S:List (List Thing)}(h:mL C H d la S)(s:Same H H'):mL C H' d la S:=
 ⟨let ⟨dx,e⟩:=h.ob;⟨dx,s _ _ e⟩,let ⟨vs,e,l,a⟩:=h.ex;⟨vs,s _ _ e,l,fun k v hk=>(a k v hk).mono s⟩,h.len,h.kp⟩
theorem mL.ll {C:Addr}{H:Hp}{d la:Addr}{S:List (List Thing)}(h:mL C H d la S):LL H la:=by
 obtain⟨vs,e,l,a⟩:=h.ex
 match vs,l with
 |v::rest,l=>
  obtain⟨a0,xs,e0,h0,_⟩:=a 0 v rfl
  subst e0
  exact⟨a0,rest,xs,e,h0⟩
theorem mL.at_ {C:Addr}{H:Hp}{d la:Addr}{S:List (List Thing)}(h:mL C H d la S){k:Nat}(hk:k<8):Ex2_ fun vs v=>And4_ (H la=some (.lst vs)) (vs[k]?=some v) (vs.length=8) (LAt H v (S.getD k [])):=by
 obtain⟨vs,e,l,a⟩:=h.ex
 have hv:=List.getElem?_eq_getElem (show k<vs.length by lia)
 exact⟨vs,_,e,hv,l,a k _ hv⟩
theorem mL.set {C:Addr}{H:Hp}{d la:Addr}{S:List (List Thing)}{vs:List V}{k:Nat}{v:V}{l:List Thing}(h:mL C H d la S)(hl:H la=some (.lst vs))(hv:LAt H v l)(hk:SbSpec.keeps l=true):mL C (upd H la (.lst (vs.set k v))) d la (S.set k l):=by
 have L:=h.ll
 obtain⟨vs',e,len,a⟩:=h.ex
 rw[hl] at e
 cases e
 refine⟨?_,⟨_,aH,by rw[List.length_set];exact len,fun j w hw=>?_⟩,by rw[List.length_set];exact h.len,fun j=>?_⟩
 .obtain⟨dx,e⟩:=h.ob
  exact⟨dx,(aM (jO e hl (by intro z;cases z))).trans e⟩
 .by_cases hj:j=k
  .subst hj
   have hjl:j<vs.length:=by
    have:=(List.getElem?_eq_some_iff.mp hw).1
    rw[List.length_set] at this
    exact this
   rw[List.getElem?_set_self hjl] at hw
   cases hw
   have e2:(S.set j l).getD j []=l:=by
    rw[List.getD_eq_getElem?_getD,List.getElem?_set_self (by rw[h.len];lia)]
    rfl
   rw[e2]
   exact hv.aNh L
  .rw[List.getElem?_set_ne (fun z=>hj z.symm)] at hw
   have e2:(S.set k l).getD j []=S.getD j []:=by
    rw[List.getD_eq_getElem?_getD,List.getElem?_set_ne (fun z=>hj z.symm),<- List.getD_eq_getElem?_getD]
   rw[e2]
   exact(a j w hw).aNh L
 .by_cases hj:j=k
  .subst hj
   rcases Nat.lt_or_ge j S.length with z|z
   .rw[List.getD_eq_getElem?_getD,List.getElem?_set_self z]
    exact hk
   .rw[List.set_eq_of_length_le z]
    exact h.kp j
  .rw[List.getD_eq_getElem?_getD,List.getElem?_set_ne (fun z=>hj z.symm),<- List.getD_eq_getElem?_getD]
   exact h.kp j
theorem pZ {l:List Thing}(h:SbSpec.keeps l=true):l.all (right 8)=true/\Bd l:=by
 unfold SbSpec.keeps at h
 rw[Bool.and_eq_true,decide_eq_true_eq] at h
 have h1:l.all (right 8)=true:=h.1
 refine⟨h1,aDy h1,?_⟩
 have h2:(SbThing.told l).length<=2000:=h.2
 rw[<- M.FN h1] at h2
 unfold M.pG at h2
 rw[List.length_cons] at h2
 show (M.tlR (M.bK l)).length<=2000
 lia
noncomputable def xOf {w:World}{K:PySem.W.Frag}{mg:Str->Option Value}(M:Md w K mg):Nat->Addr
 |1=>M.cY
 |3=>M.bY
 |4=>M.o9
 |_=>M.jG
noncomputable def vW {w:World}{K:PySem.W.Frag}{mg:Str->Option Value}(M:Md w K mg)(H:Hp)(d la:Addr)(S:SbSpec.State)(r:SbSpec.State×SbSpec.Answer)(Q:VK)(E:XK):Prop:=
 (∀ns,r.2= .nums ns-> ∀v H',mL M.cF.C H' d la r.1->NAt H' v ns->Sb la H H'->Q v H')/\(∀z,r.2= .refused z-> ∀dd H',mL M.cF.C H' d la S->Sb la H H'->E (.ref (xOf M z)) dd H')
theorem aRm {n:Nat}{l:List Thing}(h:l.all (M.dn n)=true):M.allR (M.wf n) (M.bK l):=M.N8 (fun t ht=>M.HY n t ht) h
theorem aKb {n:Nat}{l:List Thing}(h:l.all (right n)=true):l.all (M.dn n)=true:=M.lE (fun t ht=>M.rA n t ht) h
theorem aWc: ∀(n:Nat)(t:Thing),M.dn n t=true->M.dn (n+1) t=true:=by
 intro n
 induction n with
 |zero=>
  intro t h
  cases t <;>first|rfl|cases h
 |succ n ih=>
  intro t h
  cases t with
  |leaders g how u=>exact ih u h
  |box c w hh d s sh l=>exact M.lE ih h
  |disc a b c=>
   have h:(a.all (M.dn n)&&(b.all (M.dn n)&&c.all (M.dn n)))=true:=h
   show (a.all (M.dn (n+1))&&(b.all (M.dn (n+1))&&c.all (M.dn (n+1))))=true
   rw[Bool.and_eq_true,Bool.and_eq_true] at h ⊢
   exact⟨M.lE ih h.1,M.lE ih h.2.1,M.lE ih h.2.2⟩
  |adjust l=>exact M.lE ih h
  |insert c g d cost l=>exact M.lE ih h
  |_=>rfl
theorem RX (l:List Thing):(M.pG (M.bK l)).length=szL l+1:=by
 unfold M.pG szL
 rw[List.length_cons]
end Pr
end
section
namespace Pr
open PySem PySem.Spec PyProof.Rows L2 SbThing SbPack
theorem aG8:aAr aAt (aL zE) {kind:= .function,names:=[(".0",.local),("k",.local)],isGenerator:=false,isCoroutine:=false,more:=[]} [("k",1)]:=⟨rfl,by decide +kernel,by decide +kernel,by decide +kernel,by decide +kernel⟩
section
variable{P:Program}{w:World}{K:PySem.W.Frag}{mg:Str->Option Value}{base:Heap}(M:Md w K mg)
noncomputable def aHs (C:Addr):Sp:=fun vs H Q _=>Ex2_ fun p dx=>And3_ (vs=[.ref p]) (H p=some (.ins C dx [])) (∀la H',H la=none->mL C H' p la SbSpec.start->Sb p H H'->Q .non H')
theorem aKc:bJ P w K mg base (CXE P w) 1 M.wV.f M.wV.fd zF (aHs M.cF.C):=by
 refine M.wV.F.okE JV (fun vs H Q E h=>?_) (fun cdv A outer s H vs Q E hr h=>?_)
 .obtain⟨_,_,rfl,_⟩:=h
  rfl
 .obtain⟨p,dx,rfl,hp,k⟩:=h
  have c:=M.cF.c
  have n1:=M.eG
  refine⟨_,(aG (fW (pv 0) (aGw (own:=[("k",1)]) rfl JV.nd (DK rfl M.RT (aA (dR rfl M.j6) aD)) aG8 (fun _ _ _ _ _=>(cV (i:=1) JV.nd rfl (Or.inl rfl))) (fun _ _ _ _ _=>WK) (fun _ _ _ _ _=>(cX aD))) rfl)),?_⟩
  try dsimp only[aFc]
  walk_at "go"
  refine aRd ?_
  walk_at "go"
  refine⟨8,rfl,by decide,by decide,fun D nD=>?_⟩
  refine WL (fun i H'=>Same H H'/\i<=8/\ ∃us:List V,H' D=some (.lst us)/\us.length=i/\ ∀(j:Nat)(v:V),us[j]?=some v-> ∃a:Addr,v=V.ref a/\H' a=some (.lst [])/\a≠D) ⟨aU nD _,Nat.zero_le _,[],aH,rfl,fun j v hj=>by simp at hj⟩ (fun i H' hi⟨s1,_,us,hD,hl,ha⟩=>?_) (fun H'⟨s1,_,us,hD,hl,ha⟩=>?_)
  .walk_at "go"
   refine⟨rfl,?_⟩
   refine aRe ?_
   walk_at "go"
   refine⟨Nat.zero_le _,fun q nq=>?_⟩
   have hi':i<8:=hi
   have s2:=aU nq (.lst [])
   have nqD:D≠q:=aX hD nq
   refine⟨us,s2 _ _ hD,by rw[hl];exact Nat.lt_of_lt_of_le (by lia:i<100) (by decide),lV (s1.trans s2) nD,by lia,us++[.ref q],aH,by rw[List.length_append,hl];rfl,fun j v hj=>?_⟩
   rcases Nat.lt_or_ge j us.length with z|z
   .rw[List.getElem?_append_left z] at hj
    obtain⟨a,e,h1,h2⟩:=ha j v hj
    exact⟨a,e,(aM h2).trans (s2 _ _ h1),h2⟩
   .have hjl:=(List.getElem?_eq_some_iff.mp hj).1
    rw[List.length_append,List.length_singleton] at hjl
    have e:j=us.length:=by lia
    subst e
    rw[List.getElem?_append_right (Nat.le_refl _),Nat.sub_self] at hj
    cases hj
    exact⟨q,rfl,(aM (Ne.symm nqD)).trans aH,Ne.symm nqD⟩
  .have hp1:=s1 _ _ hp
   walk_at "go"
   have npD:D≠p:=jO hD hp1 (by intro z;cases z)
   refine k D _ nD ⟨⟨dx,by rw[aH];rfl⟩,⟨us,(aM npD).trans hD,hl,fun j v hj=>?_⟩,rfl,fun j=>?_⟩ (fun b o e ne=>by rw[aM ne];exact s1 b o e)
   .obtain⟨a,e,h1,h2⟩:=ha j v hj
    have e2:(SbSpec.start).getD j []=[]:=by
     unfold SbSpec.start
     rw[List.getD_eq_getElem?_getD,List.getElem?_replicate]
     split <;>rfl
    rw[e2]
    exact⟨a,[],e,(aM (jO h1 hp1 (by intro z;cases z))).trans h1,.nil⟩
   .have e2:(SbSpec.start).getD j []=[]:=by
     unfold SbSpec.start
     rw[List.getD_eq_getElem?_getD,List.getElem?_replicate]
     split <;>rfl
    rw[e2]
    decide
structure aKd (l:List Thing):Prop where
 dn:l.all (_root_.M.dn 9)=true
 sz:szL l<=80000
noncomputable def bE9 (C W:Addr):Sp:=fun vs H Q E=>Ex6_ fun d la S(k:Nat) v l=>And7_ (vs=[.ref d,.int k,v]) (mL C H d la S) (k<8) (LAt H v l) (aKd l) ((SbSpec.keeps l=false-> ∀dd H',Same H H'->E (.ref W) dd H')) ((SbSpec.keeps l=true-> ∀H',mL C H' d la (S.set k l)->Sb la H H'->(∀u m,LAt H u m->LAt H' u m)->Q .non H'))
theorem aHt {H:Hp}{v:V}{l:List Thing}{Q:VK}{E:XK}(hL:LAt H v l)(hF:aKd l)(h1:SbSpec.keeps l=false-> ∀dd H',Same H H'->E (.ref M.jG) dd H')(h2:SbSpec.keeps l=true-> ∀H',Same H H'->Q .non H'):aZr M.jG ([v]++[]) H Q E:=by
 have hz:=hF.sz
 refine⟨v,_root_.M.bK l,rfl,hL.fv,aRm hF.dn,by rw[RX];lia,?_,?_⟩
 .rw[_root_.M.aQr]
  exact fun e H' dd s=>h1 e dd H' s
 .rw[_root_.M.aQr]
  exact h2
theorem KD:bJ P w K mg base (CXE P w) 34 M.mY.f M.mY.fd zM (bE9 M.cF.C M.jG):=by
 refine M.mY.F.okE aJe (fun vs H Q E h=>?_) (fun cdv A outer s H vs Q E hr h=>?_)
 .obtain⟨_,_,_,_,_,_,rfl,_⟩:=h
  rfl
 .obtain⟨d,la,S,k,v,l,rfl,D,hk,hL,hF,x1,x2⟩:=h
  have c:=M.cF.c
  have n1:=M.eG
  refine⟨_,(aB (bQ (aJ (TJ M) (hr.mono (by walk_at "o")) rfl M.lC.m M.lC.k M.lC.b .nil aC (aA (pv 2) aD)))
   (aG (aCh (pv 2) (aCg (bG (pv 0) rfl) (pv 1) set_list)))),?_⟩
  try dsimp only[aFc]
  walk_at "go"
  refine aHt M hL hF x1 fun hkp H1 s1=>?_
  have D1:=D.mono s1
  obtain⟨dx,hd⟩:=D1.ob
  obtain⟨vs,u,hla,hu,hvl,_⟩:=D1.at_ hk
  walk_at "go"
  refine K9 hla (by lia) ?_
  exact x2 hkp _ (D1.set hla (hL.mono s1) hkp) (fun b o e ne=>by rw[aM ne];exact s1 b o e) (fun u m h=>(h.mono s1).aNh D1.ll)
noncomputable def aTa (C W:Addr):Sp:=fun vs H Q E=>Ex9_ fun d la S(k j:Nat) v l v2 l2=>And10_ (vs=[.ref d,.int k,v,.int j,v2]) (mL C H d la S) (k<8) (j<8) (LAt H v l) (aKd l) (LAt H v2 l2) (aKd l2) (((SbSpec.keeps l=false\/SbSpec.keeps l2=false)-> ∀dd H',Same H H'->E (.ref W) dd H')) ((SbSpec.keeps l=true->SbSpec.keeps l2=true-> ∀H',mL C H' d la ((S.set k l).set j l2)->Sb la H H'->Q .non H'))
theorem zT:bJ P w K mg base (CXE P w) 35 M.iM.f M.iM.fd oW (aTa M.cF.C M.jG):=by
 refine M.iM.F.okE XQ (fun vs H Q E h=>?_) (fun cdv A outer s H vs Q E hr h=>?_)
 .obtain⟨_,_,_,_,_,_,_,_,_,rfl,_⟩:=h
  rfl
 .obtain⟨d,la,S,k,j,v,l,v2,l2,rfl,D,hk,hj,hL,hF,hL2,hF2,x1,x2⟩:=h
  have c:=M.cF.c
  have n1:=M.eG
  refine⟨_,(aB (bQ (aJ (TJ M) (hr.mono (by walk_at "o")) rfl M.lC.m M.lC.k M.lC.b .nil aC (aA (pv 4) aD)))
   (aB (bQ (dN (pv 0) M.cF.c M.mY.m (KD M) (hr.mono (by walk_at "o")) M.mY.b .nil aC (aA (pv 1) (aA (pv 2) aD))))
   (aG (aCh (pv 4) (aCg (bG (pv 0) rfl) (pv 3) set_list))))),?_⟩
  try dsimp only[aFc]
  walk_at "go"
  refine aHt M hL2 hF2 (fun e dd H' s=>x1 (.inr e) dd H' s) fun hkp2 H1 s1=>?_
  have D1:=D.mono s1
  obtain⟨dx,hd⟩:=D1.ob
  walk_at "go"
  refine⟨d,la,S,k,v,l,rfl,D1,hk,hL.mono s1,hF,fun e dd H' s=>x1 (.inl e) dd H' (s1.trans s),fun hkp H2 D2 sb2 up=>?_⟩
  obtain⟨dx2,hd2⟩:=D2.ob
  obtain⟨vs,u,hla,hu,hvl,_⟩:=D2.at_ hj
  walk_at "go"
  refine K9 hla (by lia) ?_
  exact x2 hkp hkp2 _ (D2.set hla (up _ _ (hL2.mono s1)) hkp2) (fun b o e ne=>by rw[aM ne];exact sb2 b o (s1 b o e) ne)
noncomputable def aNi:Thing->Bool
 | .box _ _ _ _ _ _ _=>true
 |_=>false
noncomputable def bBv (C W:Addr):Sp:=fun vs H Q E=>Ex5_ fun d la S(k i:Nat)=>And5_ (vs=[.ref d,.int k,.int i]) (mL C H d la S) (k<8) (((∀t,(S.getD k [])[i]?=some t->aNi t=false)->E (.ref W) none H)) ((∀v t,(S.getD k [])[i]?=some t->aNi t=true->Th H v t->Q v H))
theorem bBw (t:Thing):decide (V.str (kindS t)=V.str "box")=aNi t:=by cases t <;>rfl
theorem yH:bJ P w K mg base (CXE P w) 1 M.jB.f M.jB.fd uU (bBv M.cF.C M.o9):=by
 refine M.jB.F.okE Q6 (fun vs H Q E h=>?_) (fun cdv A outer s H vs Q E hr h=>?_)
 .obtain⟨_,_,_,_,_,rfl,_⟩:=h
  rfl
 .obtain⟨d,la,S,k,i,rfl,D,hk,x1,x2⟩:=h
  have c:=M.cF.c
  have n1:=M.eG
  refine⟨_,(aB (bF (i:=3) Q6.nd rfl (Or.inl rfl) (cJ bM (bG (pv 0) rfl) (pv 1) (fun _ _=>rfl)))
   (aB (bR (PW.pt (aCf (aW aU4 (pv 2) (dF cU rfl M.sI boot_len (aA (pv 3) aD)) (bD _)) (U0 (aW aQ7 (aZ (bO hr) (cJ bM (pv 3) (pv 2) (fun _ _=>rfl)) aN (fun _ _=>rfl)) aN (bD _))))) (aG (iH iR rfl rfl rfl M.yC)) bC)
   (aG (aP (cJ bM (pv 3) (pv 2) (fun _ _=>rfl)))))),?_⟩
  try dsimp only[aFc]
  obtain⟨dx,hd⟩:=D.ob
  obtain⟨vs,u,hla,hu,hvl,⟨a,xs,rfl,ha,hx⟩⟩:=D.at_ hk
  have hs:=SqL.of (K:=K) ha
  have hxl:=hx.len
  walk_at "go"
  refine cI (SqL.of hla) (bH (j:=k) hu) ?_
  walk_at "go"
  refine eN (fun c1=>?_) (fun c1=>?_)
  .have c1:(S.getD k []).length<=i:=by have:=of_decide_eq_true c1;lia
   refine x1 fun t ht=>?_
   rw[List.getElem?_eq_none c1] at ht
   cases ht
  .have c1:i<(S.getD k []).length:=by
    rcases Nat.lt_or_ge i (S.getD k []).length with z|z
    .exact z
    .exact absurd (decide_eq_true (by lia)) c1
   have ht:=List.getElem?_eq_getElem c1
   generalize (S.getD k [])[i]=t at ht
   obtain⟨v,hv1,hT⟩:=hx.of ht
   obtain⟨b,r,rfl,hbk⟩:=hT.kd
   walk_at "go"
   refine cI hs (bH (j:=i) hv1) ?_
   walk_at "go"
   rw[bBw]
   cases hb:aNi t with
   |false=>
    refine x1 fun t' ht'=>?_
    rw[ht] at ht'
    cases ht'
    exact hb
   |true=>
    walk_at "go"
    refine cI hs (bH (j:=i) hv1) ?_
    exact x2 _ t ht hb hT
end
end Pr
end
section
namespace Pr
open PySem PySem.Spec PyProof.Rows L2 SbThing SbPack
section
variable{P:Program}{w:World}{K:PySem.W.Frag}{mg:Str->Option Value}{base:Heap}(M:Md w K mg)
theorem Sb.vX {p:Addr}{H H':Hp}(s:Same H H'):Sb p H H':=fun b o e _=>s b o e
theorem aAi (k:Nat):SbSpec.there [k]=decide (k<8):=by unfold SbSpec.there SbSpec.LISTS;simp
theorem aKe (k j:Nat):SbSpec.there [k,j]=(decide (k<8)&&decide (j<8)):=by unfold SbSpec.there SbSpec.LISTS;simp
theorem bBx (k j m:Nat):SbSpec.there [k,j,m]=(decide (k<8)&&(decide (j<8)&&decide (m<8))):=by unfold SbSpec.there SbSpec.LISTS;simp
theorem dZ {W:Addr}{x n:Nat}{H:Hp}{Q:VK}{E:XK}(h1: ¬x<n->E (.ref W) none H)(h2:x<n->Q .non H):aRb W ([.int (x:Int),.int (n:Int)]++[]) H Q E:=
 ⟨x,n,rfl,fun z=>h1 (fun y=>z ⟨by lia,by lia⟩),fun z=>h2 (by lia)⟩
theorem KH {W:Addr}{x:Int}{H:Hp}{Q:VK}{E:XK}(h1:isLen x=false->E (.ref W) none H)(h2:isLen x=true->Q .non H):aRc W ([.int x]++[]) H Q E:=⟨x,rfl,h1,h2⟩
noncomputable def listAt (S:SbSpec.State)(k:Nat):List Thing:=S.getD k []
noncomputable def bEa:Sp:=fun vs H Q E=>Ex4_ fun d la S(k:Nat)=>And3_ (vs=[.ref d,.int k]) (mL M.cF.C H d la S) (vW M H d la S (SbSpec.step S (.told k)) Q E)
theorem aKf:bJ P w K mg base (CXE P w) 32 M.wW.f M.wW.fd zG (bEa M):=by
 refine M.wW.F.okE aJb (fun vs H Q E h=>?_) (fun cdv A outer s H vs Q E hr h=>?_)
 .obtain⟨_,_,_,_,rfl,_⟩:=h
  rfl
 .obtain⟨d,la,S,k,rfl,D,P1,P2⟩:=h
  have c:=M.cF.c
  have n1:=M.eG
  refine⟨_,(aB (bQ (aJ (bZ M) (hr.mono (by walk_at "o")) rfl M.aO.m M.aO.k M.aO.b .nil aC (aA (pv 1) (aA (dR rfl M.j6) aD))))
   (aG (aP (aJ (TF M) (hr.mono (by walk_at "o")) rfl M.eU.m M.eU.k M.eU.b .nil aC (aA (cJ bM (bG (pv 0) rfl) (pv 1) (fun _ _=>rfl)) aD))))),?_⟩
  try dsimp only[aFc]
  obtain⟨dx,hd⟩:=D.ob
  simp only[SbSpec.step,aAi] at P1 P2
  walk_at "go"
  refine dZ (n:=8) (fun h=>?_) (fun h=>?_)
  .exact P2 1 (by rw[decide_eq_false h];rfl) none H D (.refl _ _)
  .rw[decide_eq_true h] at P1
   obtain⟨vs,u,hla,hu,hvl,hL⟩:=D.at_ h
   obtain⟨hr8,hB⟩:=pZ (D.kp k)
   have hz:=hB.sz
   walk_at "go"
   refine cI (SqL.of hla) (bH (j:=k) hu) ?_
   walk_at "go"
   refine⟨u,_,rfl,hL.fv,aRm (_root_.M.lE (aWc 8) (aKb hr8)),by rw[RX];lia,fun v H1 s1 hN=>?_⟩
   rw[_root_.M.FN hr8] at hN
   exact P1 _ rfl v H1 (D.mono s1) hN (.vX s1)
noncomputable def bEb:Sp:=fun vs H Q E=>Ex5_ fun d la S(k c:Nat)=>And3_ (vs=[.ref d,.int k,.int c]) (mL M.cF.C H d la S) (vW M H d la S (SbSpec.step S (.size k c)) Q E)
theorem bBy (l:List Thing):sO l (-1)=⟨columnWidth l,columnSum l-lastDepth l,lastDepth l⟩:=by
 unfold sO columnDepth
 rw[if_pos (by decide)]
theorem aKg:bJ P w K mg base (CXE P w) 21 M.wX.f M.wX.fd zH (bEb M):=by
 refine M.wX.F.okE JX (fun vs H Q E h=>?_) (fun cdv A outer s H vs Q E hr h=>?_)
 .obtain⟨_,_,_,_,_,rfl,_⟩:=h
  rfl
 .obtain⟨d,la,S,k,cc,rfl,D,P1,P2⟩:=h
  have c:=M.cF.c
  have n1:=M.eG
  have c2:=M.dM.c
  have n2:=M.iK
  have n3:=M.fU
  have n4:=M.kE
  refine⟨_,(aB (bQ (aJ (bZ M) (hr.mono (by walk_at "o")) rfl M.aO.m M.aO.k M.aO.b .nil aC (aA (pv 1) (aA (dR rfl M.j6) aD))))
   (aB (bQ (aJ (bZ M) (hr.mono (by walk_at "o")) rfl M.aO.m M.aO.k M.aO.b .nil aC (aA (pv 2) (aA aQ aD))))
   (aB (bF (i:=3) JX.nd rfl (Or.inl rfl) (cJ bM (bG (pv 0) rfl) (pv 1) (fun _ _=>rfl)))
   (aB (bF (i:=4) JX.nd rfl (Or.inl rfl) (lK (aW cT (pv 2) aQ (bD _)) (aJ (QG M) (hr.mono (by walk_at "o")) rfl M.jD.m M.jD.k M.jD.b .nil aC (aA (pv 3) (aA (dR rfl M.w6) aD))) (aJ (aB3 M) (hr.mono (by walk_at "o")) rfl M.gJ.m M.gJ.k M.gJ.b .nil aC (aA (pv 3) aD))))
   (aG (aP (cX (aA (bG (pv 4) rfl) (aA (bG (pv 4) rfl) (aA (bG (pv 4) rfl) aD)))))))))),?_⟩
  try dsimp only[aFc]
  obtain⟨dx,hd⟩:=D.ob
  simp only[SbSpec.step,aAi] at P1 P2
  walk_at "go"
  refine dZ (n:=8) (fun h=>?_) (fun h=>?_)
  .exact P2 1 (by rw[if_pos (.inl (decide_eq_false h))];rfl) none H D (.refl _ _)
  walk_at "go"
  refine dZ (n:=2) (fun h2=>?_) (fun h2=>?_)
  .exact P2 1 (by rw[if_pos (.inr (by lia))];rfl) none H D (.refl _ _)
  rw[if_neg (by rw[decide_eq_true h];simp;lia)] at P1
  obtain⟨vs,u,hla,hu,hvl,hL⟩:=D.at_ h
  obtain⟨hr8,hB⟩:=pZ (D.kp k)
  walk_at "go"
  refine cI (SqL.of hla) (bH (j:=k) hu) ?_
  walk_at "go"
  have fin: ∀z:Size,∀v H1,Same H H1->M4 M.dM.C H1 v z->(.nums [z.w,z.h,z.d]:SbSpec.Answer)=(if cc=0 then .nums [(rowSize (SbSpec.listAt S k)).w,(rowSize (SbSpec.listAt S k)).h,(rowSize (SbSpec.listAt S k)).d] else .nums [columnWidth (SbSpec.listAt S k),columnSum (SbSpec.listAt S k)-lastDepth (SbSpec.listAt S k),lastDepth (SbSpec.listAt S k)])-> ∀q,H1 q=none->Q (.ref q) (upd H1 q (.lst [.int z.w,.int z.h,.int z.d])):=fun z v H1 s1 hs e q nq=>
   P1 [z.w,z.h,z.d] e.symm _ _ (D.mono (s1.trans (aU nq _))) ⟨q,rfl,aH⟩ (.vX (s1.trans (aU nq _)))
  match cc,h2 with
  |0,_=>
   walk_at "go"
   refine⟨u,_,rfl,hL,hr8,fun v H1 s1 hs=>?_⟩
   have hs':=hs
   obtain⟨p,dq,rfl,hp⟩:=hs'
   walk_at "go"
   exact⟨by show 3<=sizeLine;decide,fin _ _ H1 s1 hs rfl⟩
  |1,_=>
   walk_at "go"
   refine⟨u,_,-1,rfl,hL,aDy hr8,fun v H1 s1 hs=>?_⟩
   rw[bBy] at hs
   have hs':=hs
   obtain⟨p,dq,rfl,hp⟩:=hs'
   walk_at "go"
   exact⟨by show 3<=sizeLine;decide,fin _ _ H1 s1 hs rfl⟩
noncomputable def bFd:Sp:=fun vs H Q E=>Ex7_ fun d la S(k i:Nat)(v m:Int)=>And3_ (vs=[.ref d,.int k,.int i,.int v,.int m]) (mL M.cF.C H d la S) (vW M H d la S (SbSpec.step S (.fit k i v m)) Q E)
theorem aNj:bJ P w K mg base (CXE P w) 7 M.G9.f M.G9.fd K4 (bFd M):=by
 refine M.G9.F.okE PX (fun vs H Q E h=>?_) (fun cdv A outer s H vs Q E hr h=>?_)
 .obtain⟨_,_,_,_,_,_,_,rfl,_⟩:=h
  rfl
 .obtain⟨d,la,S,k,i,v,m,rfl,D,P1,P2⟩:=h
  have c:=M.cF.c
  have n1:=M.eG
  have c2:=M.qU.c
  have n2:=M.sJ
  have n3:=M.vD
  refine⟨_,(aB (bQ (aJ (bZ M) (hr.mono (by walk_at "o")) rfl M.aO.m M.aO.k M.aO.b .nil aC (aA (pv 1) (aA (dR rfl M.j6) aD))))
   (aB (bQ (aJ (fV M) (hr.mono (by walk_at "o")) rfl M.bN.m M.bN.k M.bN.b .nil aC (aA (pv 3) aD)))
   (aB (bQ (aJ (fV M) (hr.mono (by walk_at "o")) rfl M.bN.m M.bN.k M.bN.b .nil aC (aA (pv 4) aD)))
   (aB (bF (i:=5) PX.nd rfl (Or.inl rfl) (cJ bM (bG (pv 0) rfl) (pv 1) (fun _ _=>rfl)))
   (aB (bR (aW xK (pv 2) (dF cU rfl M.sI boot_len (aA (pv 5) aD)) (bD _)) (aG (iH iR rfl rfl rfl M.yC)) bC)
   (aB (bF (i:=6) PX.nd rfl (Or.inl rfl) (aJ (aG3 M) (hr.mono (by walk_at "o")) rfl M.qI.m M.qI.k M.qI.b .nil aC (aA (pD uE (pv 5) wA (qX (pv 2))) (aA (pv 3) (aA (pv 4) aD)))))
   (aG (aP (lK (aW xK (bG (pv 6) rfl) aQ (bD _)) (cX (aA aQ (aA (bG (pv 6) rfl) aD))) (cX (aA aQ (aA (bG (pv 6) rfl) aD)))))))))))),?_⟩
  try dsimp only[aFc]
  obtain⟨dx,hd⟩:=D.ob
  have el:SbSpec.lens [v,m]=(isLen v&&isLen m):=by unfold SbSpec.lens;simp
  simp only[SbSpec.step,aAi,el] at P1 P2
  walk_at "go"
  refine dZ (n:=8) (fun h=>?_) (fun h=>?_)
  .exact P2 1 (by rw[if_pos (.inl (decide_eq_false h))];rfl) none H D (.refl _ _)
  walk_at "go"
  refine KH (fun h1=>?_) (fun h1=>?_)
  .exact P2 1 (by rw[if_pos (.inr (by rw[h1];rfl))];rfl) none H D (.refl _ _)
  walk_at "go"
  refine KH (fun h2=>?_) (fun h2=>?_)
  .exact P2 1 (by rw[if_pos (.inr (by rw[h1,h2];rfl))];rfl) none H D (.refl _ _)
  rw[if_neg (by rw[decide_eq_true h,h1,h2];simp)] at P1 P2
  obtain⟨vs,u,hla,hu,hvl,hL⟩:=D.at_ h
  obtain⟨hr8,hB⟩:=pZ (D.kp k)
  obtain⟨a,xs,rfl,ha,hx⟩:=hL
  have hs:=SqL.of (K:=K) ha
  have hxl:=hx.len
  walk_at "go"
  refine cI (SqL.of hla) (bH (j:=k) hu) ?_
  walk_at "go"
  refine eN (fun c1=>?_) (fun c1=>?_)
  .have c1:(SbSpec.listAt S k).length<i:=by have:=of_decide_eq_true c1;show (S.getD k []).length<i;lia
   exact P2 4 (by rw[if_pos c1];rfl) none H D (.refl _ _)
  .have c1: ¬(SbSpec.listAt S k).length<i:=fun z=>c1 (decide_eq_true (by have z:(S.getD k []).length<i:=z;lia))
   rw[if_neg c1] at P1
   walk_at "go"
   refine Q7 hs fun q nq=>?_
   rw[aEj]
   have s1:=aU nq (.lst (xs.take i))
   walk_at "go"
   refine⟨_,(S.getD k []).take i,v,m,rfl,⟨q,_,rfl,aH,(hx.take i).mono s1⟩,hB.take i,d9 h1,d9 h2,fun v2 H2 s2 ft=>?_⟩
   have s12:=s1.trans s2
   have efit:fitAt v m (SbSpec.listAt S k) i=fit ((S.getD k []).take i) (overOf ((S.getD k []).take i) v m):=rfl
   obtain⟨fp,fdx,rfl,hfp⟩:=ft
   cases hf:fit ((S.getD k []).take i) (overOf ((S.getD k []).take i) v m) with
   |full ex=>
    rw[hf] at hfp efit
    have hex:=aJx hf
    walk_at "go"
    refine V9 (decide_eq_true hex) ?_
    walk_at "go"
    refine⟨by show 2<=sizeLine;decide,fun y ny=>P1 [1,ex] (by rw[efit]) _ _ (D.mono (s12.trans (aU ny _))) ⟨y,rfl,aH⟩ (.vX (s12.trans (aU ny _)))⟩
   |fits bb=>
    rw[hf] at hfp efit
    walk_at "go"
    refine⟨by show 2<=sizeLine;decide,fun y ny=>P1 [0,bb] (by rw[efit]) _ _ (D.mono (s12.trans (aU ny _))) ⟨y,rfl,aH⟩ (.vX (s12.trans (aU ny _)))⟩
noncomputable def aWd:Sp:=fun vs H Q E=>Ex7_ fun d la S(k i:Nat)(x y:Int)=>And3_ (vs=[.ref d,.int k,.int i,.int x,.int y]) (mL M.cF.C H d la S) (vW M H d la S (SbSpec.step S (.places k i x y)) Q E)
theorem bBz {l:List Thing}{i:Nat}{α:Type}{f:Bool->Int->Int->Int->SbThing.Setting->Int->List Thing->α}{z:α}(h: ∀t,l[i]?=some t->aNi t=false):(match l[i]? with|some (.box c w' hh d s sh r)=>f c w' hh d s sh r|_=>z)=z:=by
 cases e:l[i]? with
 |none=>rfl
 |some t=>
  have:=h t e
  cases t <;>first|rfl|cases this
theorem aEo:bJ P w K mg base (CXE P w) 54 M.qP.f M.qP.fd uT (aWd M):=by
 refine M.qP.F.okE aDg (fun vs H Q E h=>?_) (fun cdv A outer s H vs Q E hr h=>?_)
 .obtain⟨_,_,_,_,_,_,_,rfl,_⟩:=h
  rfl
 .obtain⟨d,la,S,k,i,x,y,rfl,D,P1,P2⟩:=h
  have c:=M.cF.c
  refine⟨_,(aB (bQ (aJ (bZ M) (hr.mono (by walk_at "o")) rfl M.aO.m M.aO.k M.aO.b .nil aC (aA (pv 1) (aA (dR rfl M.j6) aD))))
   (aB (bQ (aJ (fV M) (hr.mono (by walk_at "o")) rfl M.bN.m M.bN.k M.bN.b .nil aC (aA (pv 3) aD)))
   (aB (bQ (aJ (fV M) (hr.mono (by walk_at "o")) rfl M.bN.m M.bN.k M.bN.b .nil aC (aA (pv 4) aD)))
   (aG (aP (aJ (aG4 M) (hr.mono (by walk_at "o")) rfl M.cZ.m M.cZ.k M.cZ.b .nil aC (aA (dN (pv 0) M.cF.c M.jB.m (yH M) (hr.mono (by walk_at "o")) M.jB.b .nil aC (aA (pv 1) (aA (pv 2) aD))) (aA (pv 3) (aA (pv 4) aD))))))))),?_⟩
  try dsimp only[aFc]
  obtain⟨dx,hd⟩:=D.ob
  have el:SbSpec.lens [x,y]=(isLen x&&isLen y):=by unfold SbSpec.lens;simp
  simp only[SbSpec.step,aAi,el] at P1 P2
  walk_at "go"
  refine dZ (n:=8) (fun h=>?_) (fun h=>?_)
  .exact P2 1 (by rw[if_pos (.inl (decide_eq_false h))];rfl) none H D (.refl _ _)
  walk_at "go"
  refine KH (fun h1=>?_) (fun h1=>?_)
  .exact P2 1 (by rw[if_pos (.inr (by rw[h1];rfl))];rfl) none H D (.refl _ _)
  walk_at "go"
  refine KH (fun h2=>?_) (fun h2=>?_)
  .exact P2 1 (by rw[if_pos (.inr (by rw[h1,h2];rfl))];rfl) none H D (.refl _ _)
  rw[if_neg (by rw[decide_eq_true h,h1,h2];simp)] at P1 P2
  obtain⟨hr8,hB⟩:=pZ (D.kp k)
  walk_at "go"
  refine⟨d,la,S,k,i,rfl,D,h,fun hno=>P2 4 (bBz hno) none H D (.refl _ _),fun v t ht hb hT=>?_⟩
  have hRt:right 8 t=true:=List.all_eq_true.mp hr8 t (List.mem_of_getElem? ht)
  have hz:=aEd ht
  have hz2:=hB.sz
  have ht':(SbSpec.listAt S k)[i]?=some t:=ht
  cases t with
  |box c' w' hh d' s' sh l=>
   walk_at "go"
   refine⟨_,c',w',hh,d',s',sh,l,x,y,rfl,hT,hRt,by lia,by lia,fun v' H1 s1 hN=>?_⟩
   exact P1 _ (by rw[ht'];rfl) v' H1 (D.mono s1) hN (.vX s1)
  |_=>cases hb
end
end Pr
end
section
namespace M
open SbThing
theorem aWe {form:String}{u:List Int}{x:FV}{r:List Int}(h:vZ form u=some (x,r)):tlV x++r=u:=by
 cases u with
 |nil=>cases h
 |cons a u=>
  rw[vZ] at h
  split at h
  .cases h;rw[tlV];rfl
  .cases h
theorem aTb {u:List Int}{x:FV}{r:List Int}(h:qY u=some (x,r)):tlV x++r=u:=by
 cases u with
 |nil=>cases h
 |cons a u=>
  rw[qY.eq_def] at h
  simp only at h
  split at h
  .rename_i e
   cases h
   subst e
   rw[tlV]
   rfl
  .split at h
   .rename_i e
    subst e
    cases u with
    |nil=>cases h
    |cons b u=>
     simp only at h
     split at h
     .cases h
      rw[tlV]
      rfl
     .cases h
   .cases h
theorem aHu {f:List Int->Option (Raw×List Int)}(hf: ∀u x r,f u=some (x,r)->tl x++r=u): ∀(k:Nat)(u:List Int)(x:fD)(r:List Int),iW f k u=some (x,r)->tlR x++r=u/\x.length=k
 |0,u,x,r,h=>by
  rw[iW] at h
  cases h
  exact⟨by rw[tlR];rfl,rfl⟩
 |k+1,u,x,r,h=>by
  rw[iW] at h
  split at h
  .cases h
  .rename_i y v e
   split at h
   .cases h
   .rename_i l w' e2
    cases h
    obtain⟨h1,h2⟩:=aHu hf k _ _ _ e2
    refine⟨?_,by rw[fD.length,h2]⟩
    rw[tlR,List.append_assoc,h1]
    exact hf _ _ _ e
theorem aHv {f:List Int->Option (Raw×List Int)}(hf: ∀u x r,f u=some (x,r)->tl x++r=u){u:List Int}{x:fD}{r:List Int}(h:nA f u=some (x,r)):pG x++r=u:=by
 cases u with
 |nil=>cases h
 |cons a u=>
  rw[nA] at h
  split at h
  .cases h
  .obtain⟨h1,h2⟩:=aHu hf _ _ _ _ h
   unfold pG
   rw[List.cons_append,h1,h2,Int.toNat_of_nonneg (by lia)]
theorem aWf {f:List Int->Option (Raw×List Int)}(hf: ∀u x r,f u=some (x,r)->tl x++r=u){u:List Int}{x:Raw}{r:List Int}(h:v7 f u=some (x,r)):tl x++r=u:=by
 unfold v7 at h
 split at h
 .cases h
 .rename_i y v e
  split at h
  .cases h
  .cases h
   exact hf _ _ _ e
theorem aYg {sub:Option (List Int->Option (Raw×List Int))}(hs: ∀f,sub=some f-> ∀u x r,f u=some (x,r)->tl x++r=u){form:String}{u:List Int}{x:FV}{r:List Int}(h:sW sub form u=some (x,r)):tlV x++r=u:=by
 unfold sW at h
 split at h
 .split at h
  .cases h
  .rename_i f
   obtain⟨y,h1,h2⟩:=Option.map_eq_some_iff.mp h
   cases h2
   have:=aHv (hs f rfl) h1
   unfold pG at this
   rw[tlV]
   exact this
 .split at h
  .split at h
   .cases h
   .rename_i f
    obtain⟨y,h1,h2⟩:=Option.map_eq_some_iff.mp h
    cases h2
    rw[tlV]
    exact aWf (hs f rfl) h1
  .split at h
   .exact aTb h
   .exact aWe h
theorem aHw {sub:Option (List Int->Option (Raw×List Int))}(hs: ∀f,sub=some f-> ∀u x r,f u=some (x,r)->tl x++r=u): ∀(fs:List (String×String))(u:List Int)(x:gP)(r:List Int),bU sub fs u=some (x,r)->tlF x++r=u
 |[],u,x,r,h=>by
  rw[bU] at h
  cases h
  rw[tlF]
  rfl
 |(f,form)::fs,u,x,r,h=>by
  rw[bU] at h
  split at h
  .cases h
  .rename_i y v e
   split at h
   .cases h
   .rename_i l w' e2
    cases h
    rw[tlF,List.append_assoc,aHw hs fs _ _ _ e2]
    exact aYg hs e
theorem aWg {sub:Option (List Int->Option (Raw×List Int))}(hs: ∀f,sub=some f-> ∀u x r,f u=some (x,r)->tl x++r=u){u:List Int}{x:Raw}{r:List Int}(h:rdT sub u=some (x,r)):tl x++r=u:=by
 cases u with
 |nil=>cases h
 |cons a u=>
  rw[rdT] at h
  split at h
  .rename_i c
   obtain⟨y,h1,h2⟩:=Option.map_eq_some_iff.mp h
   cases h2
   have h3:=aHw hs _ _ _ _ h1
   rw[tl,Pr.aE6 a.toNat (by lia)]
   show ((a.toNat:Nat):Int)::(tlF y.1++y.2)=a::u
   rw[h3,Int.toNat_of_nonneg c.1]
  .cases h
theorem aZv: ∀(n:Nat)(u:List Int)(x:Raw)(r:List Int),dI n u=some (x,r)->tl x++r=u
 |0,_,_,_,h=>aWg (fun f e=>by cases e) h
 |n+1,_,_,_,h=>aWg (fun f e u x r h=>by cases e;exact aZv n u x r h) h
theorem aPo {u:List Int}{l:fD}(h:v9 u=some l):pG l=u:=by
 unfold v9 at h
 split at h
 .rename_i l' e
  cases h
  have:=aHv (aZv 8) e
  rw[List.append_nil] at this
  exact this
 .cases h
theorem aTc {u:List Int}{l:List Thing}(h:SbThing.read u=some l):SbThing.told l=u/\l.all (right 8)=true:=by
 have hr:l.all (right 8)=true:=by
  unfold SbThing.read at h
  split at h
  .rename_i l' e
   by_cases c:l'.all (right DEEP)=true
   .rw[if_pos c] at h
    cases h
    exact c
   .rw[if_neg c] at h
    cases h
  .cases h
 have h1:v9 u=some (bK l):=by rw[aCz,h];rfl
 exact⟨by rw[<- FN hr];exact aPo h1,hr⟩
end M
end
section
namespace Pr
open PySem PySem.Spec PyProof.Rows L2 SbThing SbPack
theorem aPp {l:List Thing}(h:l.all (right 8)=true)(z:szL l<=70000):aKd l:=⟨_root_.M.lE (aWc 8) (aKb h),by lia⟩
theorem HB {l:List Thing}:SbSpec.keeps l=true↔(l.all (right 8)=true/\szL l+1<=2000):=by
 unfold SbSpec.keeps
 rw[Bool.and_eq_true,decide_eq_true_eq]
 constructor
 .rintro⟨h1,h2⟩
  have h1:l.all (right 8)=true:=h1
  refine⟨h1,?_⟩
  have h2:(SbThing.told l).length<=2000:=h2
  rw[<- _root_.M.FN h1,RX] at h2
  exact h2
 .rintro⟨h1,h2⟩
  refine⟨h1,?_⟩
  show (SbThing.told l).length<=2000
  rw[<- _root_.M.FN h1,RX]
  exact h2
theorem aCb (c:Bool)(w h d:Int)(s:SbThing.Setting)(sh:Int)(l:List Thing):szT (.box c w h d s sh l)=szL l+10:=by
 unfold szT szL
 rw[M.rawOf,M.tl]
 simp only[M.jP,M.tlF,M.tlV,List.length_append,List.length_cons,List.length_nil]
 lia
theorem aWh (g:Glue):szT (.glue g)=6:=by
 unfold szT
 rw[M.rawOf,M.tl]
 simp only[M.pF,M.jP,M.tlF,M.tlV,List.length_append,List.length_cons,List.length_nil]
theorem aHx (p:Thing->Bool): ∀l:List Thing,szL (l.filter p)<=szL l
 |[]=>Nat.le_refl _
 |t::l=>by
  have:=aHx p l
  rw[List.filter_cons,fO]
  split
  .rw[fO];lia
  .lia
theorem aYh (l:List Thing)(i:Nat):szL (l.take i)<=szL l:=by
 have h:szL l=szL (l.take i++l.drop i):=by rw[List.take_append_drop]
 rw[iC] at h
 lia
theorem aYi (l:List Thing)(i:Nat):szL (l.drop i)<=szL l:=by
 have h:szL l=szL (l.take i++l.drop i):=by rw[List.take_append_drop]
 rw[iC] at h
 lia
section
variable{P:Program}{w:World}{K:PySem.W.Frag}{mg:Str->Option Value}{base:Heap}(M:Md w K mg)
theorem Sb.aEp {p:Addr}{H H1 H2:Hp}(a:Sb p H H1)(s:Same H1 H2):Sb p H H2:=fun b o e n=>s b o (a b o e n)
theorem aRn {S:SbSpec.State}{k:Nat}{l:List Thing}(h:S.length=8)(hk:k<8):(S.set k l).getD k []=l:=by
 rw[List.getD_eq_getElem?_getD,List.getElem?_set_self (by lia)]
 rfl
noncomputable def bFe:Sp:=fun vs H Q E=>Ex6_ fun d la S(k:Nat)(a:Addr×Bool)(ns:List Int)=>And5_ (vs=[.ref d,.int k,.ref a.1]) (mL M.cF.C H d la S) (SqM K H a (ns.map V.int)) (ns.length<=100000) (vW M H d la S (SbSpec.step S (.put k ns)) Q E)
theorem aNk:bJ P w K mg base (CXE P w) 33 M.G8.f M.G8.fd JW (bFe (K:=K) M):=by
 refine M.G8.F.okE aAu (fun vs H Q E h=>?_) (fun cdv A outer s H vs Q E hr h=>?_)
 .obtain⟨_,_,_,_,_,_,rfl,_⟩:=h
  rfl
 .obtain⟨d,la,S,k,a,ns,rfl,D,hS,hl,P1,P2⟩:=h
  have c:=M.cF.c
  have n1:=M.eG
  refine⟨_,(aB (bQ (aJ (bZ M) (hr.mono (by walk_at "o")) rfl M.aO.m M.aO.k M.aO.b .nil aC (aA (pv 1) (aA (dR rfl M.j6) aD))))
   (aB (bF (i:=3) aAu.nd rfl (Or.inl rfl) (aJ (YL M) (hr.mono (by walk_at "o")) rfl M.n8.m M.n8.k M.n8.b .nil aC (aA (pv 2) aD)))
   (aB (bR (aW xK (dF cU rfl M.sI boot_len (aA (pv 2) aD)) (dR rfl M.xZ) (bD _)) (aG (iH iR rfl rfl rfl M.wU)) bC)
   (aB (aCh (pv 3) (aCg (bG (pv 0) rfl) (pv 1) set_list))
   (aG (aP (cX (aA (dF cU rfl M.sI boot_len (aA (pv 3) aD)) aD)))))))),?_⟩
  try dsimp only[aFc]
  obtain⟨dx,hd⟩:=D.ob
  simp only[SbSpec.step,aAi] at P1 P2
  walk_at "go"
  refine dZ (n:=8) (fun h=>?_) (fun h=>?_)
  .exact P2 1 (by rw[decide_eq_false h];rfl) none H D (.refl _ _)
  rw[decide_eq_true h] at P1 P2
  simp only[Bool.true_eq_false,if_false] at P1 P2
  walk_at "go"
  refine⟨a,ns,rfl,hS,hl,fun e H1 s1=>?_,fun lr e v H1 s1 fv=>?_⟩
  .have er:SbThing.read ns=none:=by
    rw[_root_.M.aCz] at e
    cases h':SbThing.read ns with
    |none=>rfl
    |some l=>rw[h'] at e;cases e
   rw[er] at P2
   exact P2 3 rfl none H1 (D.mono s1) (.vX s1)
  .rw[_root_.M.aCz] at e
   obtain⟨l,er,rfl⟩:=Option.map_eq_some_iff.mp e
   rw[er] at P1 P2
   obtain⟨et,hr8⟩:=_root_.M.aTc er
   have hL:LAt H1 v l:=gZ.aJl (gZ.imp (fun b o _ e=>⟨trivial,e⟩) fv)
   have ek:SbSpec.keeps l=decide (ns.length<=2000):=by
    unfold SbSpec.keeps
    rw[show l.all (right DEEP)=true from hr8,et,Bool.true_and]
    rfl
   unfold SbSpec.kept at P1 P2
   simp only[ek] at P1 P2
   have hs1:=(hS.same s1).sq
   walk_at "go"
   rw[List.length_map]
   refine eN (fun c1=>?_) (fun c1=>?_)
   .have c1: ¬ns.length<=2000:=by have:=of_decide_eq_true c1;lia
    exact P2 6 (by rw[if_neg (by simpa using c1)];rfl) none H1 (D.mono s1) (.vX s1)
   .have c1:ns.length<=2000:=by
     rcases Nat.lt_or_ge 2000 ns.length with z|z
     .exact absurd (decide_eq_true (by lia)) c1
     .exact z
    rw[if_pos (decide_eq_true c1)] at P1
    have D1:=D.mono s1
    obtain⟨dx1,hd1⟩:=D1.ob
    obtain⟨vs,u,hla,hu,hvl,_⟩:=D1.at_ h
    walk_at "go"
    refine K9 hla (by lia) ?_
    have D2:=D1.set (k:=k) hla hL (by rw[ek];exact decide_eq_true c1)
    obtain⟨b,bs,rfl,hb,hbs⟩:=hL.aNh (o:= .lst (vs.set k v)) D1.ll
    have hs2:=SqL.of (K:=K) hb
    walk_at "go"
    rw[hbs.len]
    refine⟨by show 1<=sizeLine;decide,fun q nq=>?_⟩
    exact P1 [(l.length:Int)] rfl _ _ (D2.mono (aU nq _)) ⟨q,rfl,aH⟩ (Sb.aEp (fun b o e ne=>by rw[aM ne];exact s1 b o e) (aU nq _))
noncomputable def bEc:Sp:=fun vs H Q E=>Ex5_ fun d la S(j k:Nat)=>And3_ (vs=[.ref d,.int j,.int k]) (mL M.cF.C H d la S) (vW M H d la S (SbSpec.step S (.join j k)) Q E)
theorem aKh:bJ P w K mg base (CXE P w) 35 M.wZ.f M.wZ.fd zK (bEc M):=by
 refine M.wZ.F.okE aJc (fun vs H Q E h=>?_) (fun cdv A outer s H vs Q E hr h=>?_)
 .obtain⟨_,_,_,_,_,rfl,_⟩:=h
  rfl
 .obtain⟨d,la,S,j,k,rfl,D,P1,P2⟩:=h
  have c:=M.cF.c
  have n1:=M.eG
  refine⟨_,(aB (bQ (aJ (bZ M) (hr.mono (by walk_at "o")) rfl M.aO.m M.aO.k M.aO.b .nil aC (aA (pv 1) (aA (dR rfl M.j6) aD))))
   (aB (bQ (aJ (bZ M) (hr.mono (by walk_at "o")) rfl M.aO.m M.aO.k M.aO.b .nil aC (aA (pv 2) (aA (dR rfl M.j6) aD))))
   (aB (bQ (dN (pv 0) M.cF.c M.mY.m (KD M) (hr.mono (by walk_at "o")) M.mY.b .nil aC (aA (pv 1) (aA (cN U6 (cJ bM (bG (pv 0) rfl) (pv 1) (fun _ _=>rfl)) (cJ bM (bG (pv 0) rfl) (pv 2) (fun _ _=>rfl))) aD))))
   (aG (aP (cX (aA (dF cU rfl M.sI boot_len (aA (cJ bM (bG (pv 0) rfl) (pv 1) (fun _ _=>rfl)) aD)) aD))))))),?_⟩
  try dsimp only[aFc]
  obtain⟨dx,hd⟩:=D.ob
  simp only[SbSpec.step,aKe] at P1 P2
  walk_at "go"
  refine dZ (n:=8) (fun h=>?_) (fun h=>?_)
  .exact P2 1 (by rw[if_pos (by rw[decide_eq_false h];rfl)];rfl) none H D (.refl _ _)
  walk_at "go"
  refine dZ (n:=8) (fun h2=>?_) (fun h2=>?_)
  .exact P2 1 (by rw[if_pos (by rw[decide_eq_false h2,Bool.and_false])];rfl) none H D (.refl _ _)
  rw[if_neg (by rw[decide_eq_true h,decide_eq_true h2];decide)] at P1 P2
  obtain⟨vs,u,hla,hu,hvl,⟨a1,xs1,rfl,ha1,hx1⟩⟩:=D.at_ h
  obtain⟨vs',u2,hla',hu2,hvl',⟨a2,xs2,rfl,ha2,hx2⟩⟩:=D.at_ h2
  rw[hla] at hla'
  cases hla'
  obtain⟨hr1,hB1⟩:=pZ (D.kp j)
  obtain⟨hr2,hB2⟩:=pZ (D.kp k)
  have hl1:=hx1.len
  have hl2:=hx2.len
  have hn1:=hB1.len
  have hn2:=hB2.len
  have hz1:=hB1.sz
  have hz2:=hB2.sz
  have hbig:=(by decide:(10000000:Nat)<=sizeLine)
  walk_at "go"
  refine cI (SqL.of hla) (bH (j:=j) hu) ?_
  walk_at "go"
  refine cI (SqL.of hla) (bH (j:=k) hu2) ?_
  refine Y5 ha1 ha2 (by lia) fun q nq=>?_
  have s1:=aU nq (.lst (xs1++xs2))
  walk_at "go"
  have hall:(S.getD j []++S.getD k []).all (right 8)=true:=by rw[List.all_append,hr1,hr2];rfl
  have D1:=D.mono s1
  refine⟨d,la,S,j,_,S.getD j []++S.getD k [],rfl,D1,h,⟨q,_,rfl,aH,(hx1.append hx2).mono s1⟩,aPp hall (by rw[iC];lia),fun e dd H' s=>?_,fun e H2 D2 sb2 _=>?_⟩
  .have e':SbSpec.keeps (SbSpec.listAt S j++SbSpec.listAt S k)=false:=e
   exact P2 6 (by unfold SbSpec.kept;rw[e'];rfl) dd H' (D.mono (s1.trans s)) (.vX (s1.trans s))
  .have e':SbSpec.keeps (SbSpec.listAt S j++SbSpec.listAt S k)=true:=e
   obtain⟨dx2,hd2⟩:=D2.ob
   obtain⟨vs2,u3,hla2,hu3,hvl2,hL3⟩:=D2.at_ h
   rw[aRn D.len h] at hL3
   obtain⟨a3,xs3,rfl,ha3,hx3⟩:=hL3
   have hs3:=SqL.of (K:=K) ha3
   walk_at "go"
   refine cI (SqL.of hla2) (bH (j:=j) hu3) ?_
   walk_at "go"
   rw[hx3.len]
   refine⟨by show 1<=sizeLine;decide,fun y ny=>?_⟩
   refine P1 [((S.getD j []++S.getD k []).length:Int)] (by unfold SbSpec.kept;rw[if_pos e'];rfl) _ _ ?_ ⟨y,rfl,aH⟩ (Sb.aEp (fun b o eb ne=>sb2 b o (s1 b o eb) ne) (aU ny _))
   unfold SbSpec.kept
   rw[if_pos e']
   exact D2.mono (aU ny _)
noncomputable def aYj:Sp:=fun vs H Q E=>Ex6_ fun d la S(k i j:Nat)=>And3_ (vs=[.ref d,.int k,.int i,.int j]) (mL M.cF.C H d la S) (vW M H d la S (SbSpec.step S (.unpack k i j)) Q E)
theorem aEq:bJ P w K mg base (CXE P w) 2 M.qO.f M.qO.fd uR (aYj M):=by
 refine M.qO.F.okE aDf (fun vs H Q E h=>?_) (fun cdv A outer s H vs Q E hr h=>?_)
 .obtain⟨_,_,_,_,_,_,rfl,_⟩:=h
  rfl
 .obtain⟨d,la,S,k,i,j,rfl,D,P1,P2⟩:=h
  have c:=M.cF.c
  have n1:=M.eG
  refine⟨_,(aB (bQ (aJ (bZ M) (hr.mono (by walk_at "o")) rfl M.aO.m M.aO.k M.aO.b .nil aC (aA (pv 1) (aA (dR rfl M.j6) aD))))
   (aB (bQ (aJ (bZ M) (hr.mono (by walk_at "o")) rfl M.aO.m M.aO.k M.aO.b .nil aC (aA (pv 3) (aA (dR rfl M.j6) aD))))
   (aB (aCh (aZ (bO hr) (dN (pv 0) M.cF.c M.jB.m (yH M) (hr.mono (by walk_at "o")) M.jB.b .nil aC (aA (pv 1) (aA (pv 2) aD))) aN (fun _ _=>rfl)) (aCg (bG (pv 0) rfl) (pv 3) set_list))
   (aG (aP (cX (aA (dF cU rfl M.sI boot_len (aA (cJ bM (bG (pv 0) rfl) (pv 3) (fun _ _=>rfl)) aD)) aD))))))),?_⟩
  try dsimp only[aFc]
  obtain⟨dx,hd⟩:=D.ob
  simp only[SbSpec.step,aKe] at P1 P2
  walk_at "go"
  refine dZ (n:=8) (fun h=>?_) (fun h=>?_)
  .exact P2 1 (by rw[if_pos (by rw[decide_eq_false h];rfl)];rfl) none H D (.refl _ _)
  walk_at "go"
  refine dZ (n:=8) (fun h2=>?_) (fun h2=>?_)
  .exact P2 1 (by rw[if_pos (by rw[decide_eq_false h2,Bool.and_false])];rfl) none H D (.refl _ _)
  rw[if_neg (by rw[decide_eq_true h,decide_eq_true h2];decide)] at P1 P2
  obtain⟨hr8,hB⟩:=pZ (D.kp k)
  walk_at "go"
  refine⟨d,la,S,k,i,rfl,D,h,fun hno=>P2 4 ?_ none H D (.refl _ _),fun v t ht hb hT=>?_⟩
  .cases e:(SbSpec.listAt S k)[i]? with
   |none=>rfl
   |some t=>
    have hb:=hno t e
    cases t <;>first|rfl|cases hb
  have ht':(SbSpec.listAt S k)[i]?=some t:=ht
  have hRt:right 8 t=true:=List.all_eq_true.mp hr8 t (List.mem_of_getElem? ht)
  have hz:=aEd ht
  have hz2:=hB.sz
  cases t with
  |box c' w' hh d' s' sh l=>
   rw[ht'] at P1
   have hb1:=aCb c' w' hh d' s' sh l
   have hk1:SbSpec.keeps l=true:=HB.mpr ⟨by
    simp only[right,Bool.and_eq_true] at hRt
    exact all_le (by lia) hRt.2.2.2.2.2,by lia⟩
   obtain⟨b,kvs,rfl,hbk,u,hu,rfl⟩:=hT.kv
   obtain⟨vs,u0,hla,hu0,hvl,_⟩:=D.at_ h2
   walk_at "go"
   refine K9 hla (by lia) ?_
   have D2:=D.set (k:=j) hla hu hk1
   obtain⟨dx2,hd2⟩:=D2.ob
   obtain⟨a3,xs3,rfl,ha3,hx3⟩:=hu.aNh (o:= .lst (vs.set j u)) D.ll
   have hs3:=SqL.of (K:=K) ha3
   walk_at "go"
   refine cI (SqL.of aH) (bH (j:=j) (List.getElem?_set_self (by lia))) ?_
   walk_at "go"
   rw[hx3.len]
   refine⟨by show 1<=sizeLine;decide,fun y ny=>?_⟩
   exact P1 [(l.length:Int)] rfl _ _ (D2.mono (aU ny _)) ⟨y,rfl,aH⟩ (Sb.aEp (fun b o eb ne=>by rw[aM ne];exact eb) (aU ny _))
  |_=>cases hb
end
end Pr
end
section
namespace Pr
open PySem PySem.Spec PyProof.Rows L2 SbThing SbPack
theorem aHy: ∀l:List Thing,szL (begun l)<=szL l/\ ∀t∈begun l,t∈l
 |[]=>⟨Nat.le_refl _,fun t h=>h⟩
 |t::l=>by
  have ih:=aHy l
  rw[begun]
  split
  .exact⟨Nat.le_refl _,fun _ h=>h⟩
  .split
   .exact⟨by rw[fO];lia,fun u h=>List.mem_cons_of_mem _ (ih.2 u h)⟩
   .refine⟨by rw[fO,fO];lia,fun u h=>?_⟩
    rcases List.mem_cons.mp h with z|z
    .exact z▸List.mem_cons_self
    .exact List.mem_cons_of_mem _ (ih.2 u z)
theorem aHz (g:Glue): ∀l:List Thing,szL (topped g l)<=szL l+6
 |[]=>by show szL []<=_;lia
 |t::l=>by
  have ih:=aHz g l
  rw[topped]
  split
  .rw[fO,fO,aWh]
   lia
  .rw[fO,fO]
   lia
theorem aI0 (g:Glue)(n:Nat): ∀l:List Thing,l.all (M.dn n)=true->(topped g l).all (M.dn n)=true
 |[],_=>rfl
 |t::l,h=>by
  rw[List.all_cons,Bool.and_eq_true] at h
  rw[topped]
  split
  .rw[List.all_cons,List.all_cons,h.1,h.2]
   cases n <;>rfl
  .rw[List.all_cons,h.1,aI0 g n l h.2]
   rfl
theorem yI {p:Thing->Bool}{l r:List Thing}(h:l.all p=true)(k: ∀t∈r,t∈l):r.all p=true:=by
 rw[List.all_eq_true] at h ⊢
 exact fun t ht=>h t (k t ht)
theorem dn9 {l:List Thing}(h:l.all (right 8)=true):l.all (M.dn 9)=true:=M.lE (aWc 8) (aKb h)
theorem aYk {v m:Int}{g:Glue}{l:List Thing}(h:l.all (right 8)=true)(hz:szL l<=2000):aKd (SbPack.cut v m g l).upper/\aKd (SbPack.cut v m g l).rest:=by
 have hd:=dn9 h
 unfold SbPack.cut
 simp only[aNf]
 have hb:=aHy (l.drop (cutAt v m l+1))
 have z1:=aYi l (cutAt v m l+1)
 have z2:=aYh l (cutAt v m l)
 have m1: ∀t∈begun (l.drop (cutAt v m l+1)),t∈l:=fun t ht=>List.mem_of_mem_drop (hb.2 t ht)
 have m2: ∀t∈l.take (cutAt v m l),t∈l:=fun t ht=>List.mem_of_mem_take ht
 split
 .refine⟨⟨yI hd m2,?_⟩,⟨aI0 g 9 _ (yI hd m1),?_⟩⟩
  .show szL (l.take (cutAt v m l))<=80000
   lia
  .show szL (topped g (begun (l.drop (cutAt v m l+1))))<=80000
   have:=aHz g (begun (l.drop (cutAt v m l+1)))
   lia
 .refine⟨⟨?_,?_⟩,⟨rfl,by show szL []<=_;rw[wM];lia⟩⟩
  .rw[List.all_append,yI hd m2,yI hd m1]
   rfl
  .show szL (l.take (cutAt v m l)++begun (l.drop (cutAt v m l+1)))<=_
   rw[iC]
   lia
theorem aPq (kind how:Nat)(l:List Thing)(a g:Int)(hk:kind<3):Ex5_ fun c w h d s=>(SbSpec.packed kind l (SbSpec.howOf how a) g).1= .box c w h d s 0 l:=by
 rw[aHd kind how l a g hk]
 exact⟨_,_,_,_,_,rfl⟩
theorem aYl {l:List Thing}(h:l.all (right 8)=true)(hz:szL l<=2000):aKd (yJ l):=by
 have key: ∀l:List Thing,l.all (right 8)=true->(yJ l).all (right 8)=true/\szL (yJ l)<=szL l:=by
  intro l
  refine snoc_ind (p:=fun l=>l.all (right 8)=true->(yJ l).all (right 8)=true/\szL (yJ l)<=szL l) (fun _=>⟨rfl,Nat.le_refl _⟩) (fun l t ih h=>?_) l
  rw[List.all_append,Bool.and_eq_true] at h
  have ih:=ih h.1
  have ht:right 8 t=true:=by simpa using h.2
  rw[aAh,iC,iC,fO,wM,List.all_append,ih.1,Bool.true_and]
  split
  .cases t with
   |adjust r=>
    have h2:szL r<szT (.adjust r):=by
     unfold szT szL
     rw[M.rawOf,M.tl]
     simp only[M.jP,M.tlF,M.tlV,List.length_append,List.length_cons,List.length_nil]
     lia
    refine⟨?_,by show szL (yJ l)+szL r<=_;lia⟩
    show r.all (right 8)=true
    rw[right] at ht
    exact all_le (by lia) ht
   |_=>
    refine⟨by show ([_]:List Thing).all (right 8)=true;rw[List.all_cons,ht];rfl,?_⟩
    show szL (yJ l)+szL [_]<=_
    rw[fO,wM]
    lia
  .refine⟨rfl,by show szL (yJ l)+szL []<=_;rw[wM];lia⟩
 have:=key l h
 exact aPp this.1 (by lia)
section
variable{P:Program}{w:World}{K:PySem.W.Frag}{mg:Str->Option Value}{base:Heap}(M:Md w K mg)
theorem aTd {C:Addr}{H:Hp}{Q:Addr->Hp->Prop}{E:XK}{x:V}{l:List Thing}{kind how:Nat}{a g:Int}(hk:kind<3)(hh:how<3)(hL:LAt H x l)(hB:Bd l)(hR:l.all (right 8)=true)(ha: -1073741823<=a/\a<=1073741823)(hg: -1073741823<=g/\g<=1073741823)
  (k: ∀p dx vb vd H',Same H H'->H' p=some (.ins C dx (pkf vb vd))->Th H' vb (SbSpec.packed kind l (SbSpec.howOf how a) g).1->NAt H' vd (SbSpec.saidOf (fit l (SbSpec.packed kind l (SbSpec.howOf how a) g).2) (SbSpec.packed kind l (SbSpec.howOf how a) g).2)->Q p H'):
  ∀p dx,H p=none->H dx=none->dx≠p->aN1 C (.ref p::([x,.int kind,.int how,.int a,.int g]++[])) (upd (upd H dx (.own p)) p (.ins C dx [])) (fun v H2=>v= .non/\Q p H2) E:=by
 intro p dx np nd ne
 have s0:Same H (upd (upd H dx (.own p)) p (.ins C dx [])):=fun b o e=>by
  rw[aM (aX e np),aM (aX e nd)]
  exact e
 refine⟨p,dx,x,l,kind,how,a,g,rfl,aH,hk,hh,hL.mono s0,hB,hR,ha,hg,fun vb vd H' hp ht hn sb=>⟨rfl,k p dx vb vd H' (fun b o e=>sb b o (s0 b o e) (aX e np)) hp ht hn⟩⟩
noncomputable def bEd:Sp:=fun vs H Q E=>Ex9_ fun d la S(k j kind how:Nat)(a m:Int)=>And3_ (vs=[.ref d,.int k,.int j,.int kind,.int how,.int a,.int m]) (mL M.cF.C H d la S) (vW M H d la S (SbSpec.step S (.pack k j kind how a m)) Q E)
theorem aKi:bJ P w K mg base (CXE P w) 35 M.wY.f M.wY.fd zJ (bEd M):=by
 refine M.wY.F.okE XJ (fun vs H Q E h=>?_) (fun cdv A outer s H vs Q E hr h=>?_)
 .obtain⟨_,_,_,_,_,_,_,_,_,rfl,_⟩:=h
  rfl
 .obtain⟨d,la,S,k,j,kind,how,a,m,rfl,D,P1,P2⟩:=h
  have c:=M.cF.c
  have n1:=M.eG
  have c2:=M.zQ.c
  have n2:=M.QD
  have n3:=M.K7
  refine⟨_,(aB (bQ (aJ (bZ M) (hr.mono (by walk_at "o")) rfl M.aO.m M.aO.k M.aO.b .nil aC (aA (pv 1) (aA (dR rfl M.j6) aD))))
   (aB (bQ (aJ (bZ M) (hr.mono (by walk_at "o")) rfl M.aO.m M.aO.k M.aO.b .nil aC (aA (pv 2) (aA (dR rfl M.j6) aD))))
   (aB (bQ (aJ (bZ M) (hr.mono (by walk_at "o")) rfl M.aO.m M.aO.k M.aO.b .nil aC (aA (pv 3) (aA aQ aD))))
   (aB (bQ (aJ (bZ M) (hr.mono (by walk_at "o")) rfl M.aO.m M.aO.k M.aO.b .nil aC (aA (pv 4) (aA aQ aD))))
   (aB (bQ (aJ (fV M) (hr.mono (by walk_at "o")) rfl M.bN.m M.bN.k M.bN.b .nil aC (aA (pv 5) aD)))
   (aB (bQ (aJ (fV M) (hr.mono (by walk_at "o")) rfl M.bN.m M.bN.k M.bN.b .nil aC (aA (pv 6) aD)))
   (aB (bF (i:=7) XJ.nd rfl (Or.inl rfl) (dX M.qN.ma (aE0 M) (hr.mono (by walk_at "o")) rfl M.zQ.m M.qN.b .nil aC (aA (cJ bM (bG (pv 0) rfl) (pv 1) (fun _ _=>rfl)) (aA (pv 3) (aA (pv 4) (aA (pv 5) (aA (pv 6) aD)))))))
   (aB (bQ (dN (pv 0) M.cF.c M.mY.m (KD M) (hr.mono (by walk_at "o")) M.mY.b .nil aC (aA (pv 2) (aA (cX (aA (bG (pv 7) rfl) aD)) aD))))
   (aG (aP (bG (pv 7) rfl))))))))))),?_⟩
  try dsimp only[aFc]
  obtain⟨dx,hd⟩:=D.ob
  have el:SbSpec.lens [a,m]=(isLen a&&isLen m):=by unfold SbSpec.lens;simp
  simp only[SbSpec.step,aKe,el] at P1 P2
  have bad:((decide (k<8)&&decide (j<8))=false\/2<kind\/2<how\/(isLen a&&isLen m)=false)->E (.ref M.cY) none H:=fun z=>P2 1 (by rw[if_pos z];rfl) none H D (.refl _ _)
  walk_at "go"
  refine dZ (n:=8) (fun h=>bad (.inl (by rw[decide_eq_false h];rfl))) (fun h=>?_)
  walk_at "go"
  refine dZ (n:=8) (fun h2=>bad (.inl (by rw[decide_eq_false h2,Bool.and_false]))) (fun h2=>?_)
  walk_at "go"
  refine dZ (n:=3) (fun h3=>bad (.inr (.inl (by lia)))) (fun h3=>?_)
  walk_at "go"
  refine dZ (n:=3) (fun h4=>bad (.inr (.inr (.inl (by lia))))) (fun h4=>?_)
  walk_at "go"
  refine KH (fun h5=>bad (.inr (.inr (.inr (by rw[h5];rfl))))) (fun h5=>?_)
  walk_at "go"
  refine KH (fun h6=>bad (.inr (.inr (.inr (by rw[h6,Bool.and_false]))))) (fun h6=>?_)
  rw[if_neg (by rw[decide_eq_true h,decide_eq_true h2,h5,h6];simp;lia)] at P1 P2
  obtain⟨vs,u,hla,hu,hvl,hL⟩:=D.at_ h
  obtain⟨hr8,hB⟩:=pZ (D.kp k)
  have hz:=hB.sz
  walk_at "go"
  refine cI (SqL.of hla) (bH (j:=k) hu) ?_
  walk_at "go"
  refine aTd h3 h4 hL hB hr8 (d9 h5) (d9 h6) fun p dxp vb vd H1 s1 hp ht hn=>?_
  have D1:=D.mono s1
  obtain⟨dx1,hd1⟩:=D1.ob
  walk_at "go"
  refine⟨by show 1<=sizeLine;decide,fun q nq=>?_⟩
  have s2:=aU nq (.lst [vb])
  have D2:=D1.mono s2
  walk_at "go"
  obtain⟨bc,bw,bh,bd,bs,eb⟩:=aPq kind how (S.getD k []) a m h3
  have hFit:aKd [(SbSpec.packed kind (S.getD k []) (SbSpec.howOf how a) m).1]:=by
   rw[eb]
   refine⟨?_,by rw[fO,wM,aCb];lia⟩
   rw[List.all_cons,List.all_nil,Bool.and_true]
   show (S.getD k []).all (_root_.M.dn 8)=true
   exact aKb hr8
  refine⟨d,la,S,j,_,[(SbSpec.packed kind (S.getD k []) (SbSpec.howOf how a) m).1],rfl,D2,h2,⟨q,_,rfl,aH,.cons (ht.mono s2) .nil⟩,hFit,fun e dd H' s=>?_,fun e H3 D3 sb3 _=>?_⟩
  .have e':SbSpec.keeps [(SbSpec.packed kind (SbSpec.listAt S k) (SbSpec.howOf how a) m).1]=false:=e
   exact P2 6 (by unfold SbSpec.kept;rw[e'];rfl) dd H' (D2.mono s) (.vX ((s1.trans s2).trans s))
  .have e':SbSpec.keeps [(SbSpec.packed kind (SbSpec.listAt S k) (SbSpec.howOf how a) m).1]=true:=e
   have npla:p≠la:=jO hp (s1 _ _ hla) (by intro z;cases z)
   have hp3:=sb3 _ _ (s2 _ _ hp) npla
   have hn3:NAt H3 vd (SbSpec.saidOf (fit (S.getD k []) (SbSpec.packed kind (S.getD k []) (SbSpec.howOf how a) m).2) (SbSpec.packed kind (S.getD k []) (SbSpec.howOf how a) m).2):=by
    obtain⟨y,ey,hy⟩:=hn
    refine⟨y,ey,sb3 _ _ (s2 _ _ hy) (fun z=>?_)⟩
    subst z
    rw[s1 _ _ hla] at hy
    injection hy with hy
    injection hy with hy
    obtain⟨a0,rest,xs,q1,q2⟩:=D.ll
    rw[hla] at q1
    cases q1
    have:(V.ref a0::rest).length=(SbSpec.saidOf (fit (S.getD k []) (SbSpec.packed kind (S.getD k []) (SbSpec.howOf how a) m).2) (SbSpec.packed kind (S.getD k []) (SbSpec.howOf how a) m).2).length:=by rw[hy,List.length_map]
    generalize SbSpec.saidOf (fit (S.getD k []) (SbSpec.packed kind (S.getD k []) (SbSpec.howOf how a) m).2) (SbSpec.packed kind (S.getD k []) (SbSpec.howOf how a) m).2=sd at*
    cases sd with
    |nil=>cases hy
    |cons s0 sr=>cases hy
   walk_at "go"
   refine P1 _ (by unfold SbSpec.kept;rw[if_pos e'];rfl) vd H3 ?_ hn3 (fun b o eb ne=>sb3 b o (s2 _ _ (s1 _ _ eb)) ne)
   unfold SbSpec.kept
   rw[if_pos e']
   exact D3
noncomputable def bC0:Sp:=fun vs H Q E=>Ex6_ fun d la S(k i:Nat)(a:Int)=>And3_ (vs=[.ref d,.int k,.int i,.int a]) (mL M.cF.C H d la S) (vW M H d la S (SbSpec.step S (.shift k i a)) Q E)
theorem aI1 {l:List Thing}{i:Nat}{t u:Thing}(h:l[i]?=some t):l.set i u=l.take i++(u::l.drop (i+1)):=by
 have hi:=(List.getElem?_eq_some_iff.mp h).1
 rw[List.set_eq_take_append_cons_drop,if_pos hi]
theorem aG9:bJ P w K mg base (CXE P w) 3 M.tU.f M.tU.fd wL (bC0 M):=by
 refine M.tU.F.okE CP (fun vs H Q E h=>?_) (fun cdv A outer s H vs Q E hr h=>?_)
 .obtain⟨_,_,_,_,_,_,rfl,_⟩:=h
  rfl
 .obtain⟨d,la,S,k,i,a,rfl,D,P1,P2⟩:=h
  have c:=M.cF.c
  have n1:=M.eG
  refine⟨_,(aB (bQ (aJ (bZ M) (hr.mono (by walk_at "o")) rfl M.aO.m M.aO.k M.aO.b .nil aC (aA (pv 1) (aA (dR rfl M.j6) aD))))
   (aB (bQ (aJ (fV M) (hr.mono (by walk_at "o")) rfl M.bN.m M.bN.k M.bN.b .nil aC (aA (pv 3) aD)))
   (aB (bF (i:=4) CP.nd rfl (Or.inl rfl) (aGv aDj rfl M.aP5 boot_dict (aA (dN (pv 0) M.cF.c M.jB.m (yH M) (hr.mono (by walk_at "o")) M.jB.b .nil aC (aA (pv 1) (aA (pv 2) aD))) aD)))
   (aB (aBz (bO hr) (pv 4) aN (pv 3) rfl)
   (aB (bF (i:=5) CP.nd rfl (Or.inl rfl) (cJ bM (bG (pv 0) rfl) (pv 1) (fun _ _=>rfl)))
   (aB (aCh (cN U6 (cN U6 (pD uE (pv 5) wA (qX (pv 2))) (cX (aA (pv 4) aD))) (pD uE (pv 5) (qX (cN fH (pv 2) aQ)) wA)) (aCg (bG (pv 0) rfl) (pv 1) set_list))
   (aG (aP (cX (aA aQ aD)))))))))),?_⟩
  try dsimp only[aFc]
  obtain⟨dx,hd⟩:=D.ob
  have el:SbSpec.lens [a]=isLen a:=by unfold SbSpec.lens;simp
  simp only[SbSpec.step,aAi,el] at P1 P2
  walk_at "go"
  refine dZ (n:=8) (fun h=>?_) (fun h=>?_)
  .exact P2 1 (by rw[if_pos (.inl (decide_eq_false h))];rfl) none H D (.refl _ _)
  walk_at "go"
  refine KH (fun h1=>?_) (fun h1=>?_)
  .exact P2 1 (by rw[if_pos (.inr h1)];rfl) none H D (.refl _ _)
  rw[if_neg (by rw[decide_eq_true h,h1];simp)] at P1 P2
  obtain⟨hr8,hB⟩:=pZ (D.kp k)
  have hz2:=hB.sz
  have hln:=hB.len
  have hbig:=(by decide:(10000000:Nat)<=sizeLine)
  walk_at "go"
  refine⟨d,la,S,k,i,rfl,D,h,fun hno=>P2 4 ?_ none H D (.refl _ _),fun v t ht hb hT=>?_⟩
  .cases e:(SbSpec.listAt S k)[i]? with
   |none=>rfl
   |some t=>
    have hb:=hno t e
    cases t <;>first|rfl|cases hb
  have ht':(SbSpec.listAt S k)[i]?=some t:=ht
  have hRt:right 8 t=true:=List.all_eq_true.mp hr8 t (List.mem_of_getElem? ht)
  cases t with
  |box c' w' hh d' s' sh l=>
   rw[ht'] at P1
   obtain⟨b,kvs,rfl,hbk,u,hu,rfl⟩:=hT.kv
   walk_at "go"
   refine⟨b,_,rfl,hbk,fun p np=>?_⟩
   have s1:=aU np (.dK (aDr c' w' hh d' s' sh u))
   walk_at "go"
   refine⟨p,_,rfl,aIh.k (k:=kk "shift") aH (by show 10<sizeLine;decide),?_⟩
   rw[gD]
   have eput:putK (aDr c' w' hh d' s' sh u) (kk "shift") (.int a)=(aDr c' w' hh d' s' a u):=rfl
   rw[eput]
   have s2:=aU np (.dK (aDr c' w' hh d' s' a u))
   have hTn:Th (upd H p (.dK (aDr c' w' hh d' s' a u))) (.ref p) (.box c' w' hh d' s' a l):=Th.mk aH ⟨u,hu.mono s2,rfl⟩
   generalize upd H p (.dK (aDr c' w' hh d' s' a u))=H2 at s2 hTn ⊢
   have D2:=D.mono s2
   obtain⟨dx2,hd2⟩:=D2.ob
   obtain⟨vs,u0,hla,hu0,hvl,⟨a0,xs,rfl,ha0,hx⟩⟩:=D2.at_ h
   have hxl:=hx.len
   walk_at "go"
   refine cI (SqL.of hla) (bH (j:=k) hu0) ?_
   walk_at "go"
   refine Q7 (SqL.of ha0) fun q nq=>?_
   rw[aEj]
   have s3:=aU nq (.lst (xs.take i))
   walk_at "go"
   refine⟨by show 1<=sizeLine;decide,fun q2 nq2=>?_⟩
   have s4:=aU nq2 (.lst [V.ref p])
   refine Y5 (s4 _ _ aH) aH (by rw[List.length_take,List.length_singleton];lia) fun q3 nq3=>?_
   have s5:=aU nq3 (.lst (xs.take i++[V.ref p]))
   walk_at "go"
   refine Q7 (SqL.of (s5 _ _ (s4 _ _ (s3 _ _ ha0)))) fun q4 nq4=>?_
   rw[show (i:Int)+1=((i+1:Nat):Int) by lia,aEi]
   have s6:=aU nq4 (.lst (xs.drop (i+1)))
   refine Y5 (s6 _ _ aH) aH (by rw[List.length_append,List.length_take,List.length_drop,List.length_singleton];lia) fun q5 nq5=>?_
   have s7:=aU nq5 (.lst ((xs.take i++[V.ref p])++xs.drop (i+1)))
   have sall:=(((s3.trans s4).trans s5).trans s6).trans s7
   have D7:=D2.mono sall
   obtain⟨dx7,hd7⟩:=D7.ob
   have hla7:=sall _ _ hla
   walk_at "go"
   refine K9 hla7 (by lia) ?_
   have eset:(S.getD k []).set i (.box c' w' hh d' s' a l)=((S.getD k []).take i++[.box c' w' hh d' s' a l])++(S.getD k []).drop (i+1):=by
    rw[aI1 ht,List.append_assoc]
    rfl
   have hLn:LAt (upd (upd (upd (upd (upd H2 q (.lst (xs.take i))) q2 (.lst [V.ref p])) q3 (.lst (xs.take i++[V.ref p]))) q4 (.lst (xs.drop (i+1)))) q5 (.lst ((xs.take i++[V.ref p])++xs.drop (i+1)))) (.ref q5) ((S.getD k []).set i (.box c' w' hh d' s' a l)):=by
    rw[eset]
    exact⟨q5,_,rfl,aH,((((hx.take i).append (.cons hTn .nil)).append (hx.drop (i+1))).mono sall)⟩
   have hkn:SbSpec.keeps ((S.getD k []).set i (.box c' w' hh d' s' a l))=true:=by
    have hk0:=HB.mp (D.kp k)
    have hsp:=(iQ ht).1
    refine HB.mpr ⟨?_,?_⟩
    .rw[List.all_eq_true]
     intro y hy
     rcases List.mem_or_eq_of_mem_set hy with z|z
     .exact List.all_eq_true.mp hr8 y z
     .subst z
      simp only[right,Bool.and_eq_true] at hRt ⊢
      exact⟨hRt.1,hRt.2.1,hRt.2.2.1,hRt.2.2.2.1,h1,hRt.2.2.2.2.2⟩
    .have e1:szL ((S.getD k []).set i (.box c' w' hh d' s' a l))=szL (S.getD k []):=by
      rw[aI1 ht,iC,fO,aCb]
      have e2:szL (S.getD k [])=szL ((S.getD k []).take i++(.box c' w' hh d' s' sh l)::(S.getD k []).drop (i+1)):=by rw[<- hsp]
      rw[e2,iC,fO,aCb]
     lia
   have D8:=D7.set (k:=k) hla7 hLn hkn
   walk_at "go"
   refine⟨by show 1<=sizeLine;decide,fun y ny=>?_⟩
   exact P1 [0] rfl _ _ (D8.mono (aU ny _)) ⟨y,rfl,aH⟩ (Sb.aEp (fun b o eb ne=>by rw[aM ne];exact sall _ _ (s2 _ _ eb)) (aU ny _))
  |_=>cases hb
end
end Pr
end
section
namespace Pr
open PySem PySem.Spec PyProof.Rows L2 SbThing SbPack
section
variable{P:Program}{w:World}{K:PySem.W.Frag}{mg:Str->Option Value}{base:Heap}(M:Md w K mg)
theorem bC1 {C:Addr}{H:Hp}{Q:Addr->Hp->Prop}{E:XK}{u vg:V}{l:List Thing}{v g:Int}{gl:Glue}(hL:LAt H u l)(hB:Bd l)(hv: -1073741823<=v/\v<=1073741823)(hg: -1073741823<=g/\g<=1073741823)(hG:Th H vg (.glue gl))
  (k: ∀p dx vu vr H',Same H H'->H' p=some (.ins C dx (ctf (SbPack.cut v g gl l).penalty vu vr))->LAt H' vu (SbPack.cut v g gl l).upper->LAt H' vr (SbPack.cut v g gl l).rest->Q p H'):
  ∀p dx,H p=none->H dx=none->dx≠p->bE8 C (.ref p::([u,.int v,.int g,vg]++[])) (upd (upd H dx (.own p)) p (.ins C dx [])) (fun v H2=>v= .non/\Q p H2) E:=by
 intro p dx np nd ne
 have s0:Same H (upd (upd H dx (.own p)) p (.ins C dx [])):=fun b o e=>by
  rw[aM (aX e np),aM (aX e nd)]
  exact e
 exact⟨p,dx,u,l,v,g,vg,gl,rfl,aH,hL.mono s0,hB,hv,hg,hG.mono s0,fun vu vr H' hp h1 h2 sb=>⟨rfl,k p dx vu vr H' (fun b o e=>sb b o (s0 b o e) (aX e np)) hp h1 h2⟩⟩
theorem aNl {W:Addr}{x y:Nat}{H:Hp}{Q:VK}{E:XK}(h1:x=y->E (.ref W) none H)(h2:x≠y->Q .non H):aVz W ([.int (x:Int),.int (y:Int)]++[]) H Q E:=
 ⟨x,y,rfl,fun z=>h1 (by lia),fun z=>h2 (by lia)⟩
noncomputable def bEe:Sp:=fun vs H Q E=>Ex10_ fun d la S(k j m:Nat)(v g:Int)(a:Addr×Bool)(ns:List Int)=>And5_ (vs=[.ref d,.int k,.int j,.int m,.int v,.int g,.ref a.1]) (mL M.cF.C H d la S) (SqM K H a (ns.map V.int)) (ns.length<=100000) (vW M H d la S (SbSpec.step S (.cut k j m v g ns)) Q E)
theorem aNm:bJ P w K mg base (CXE P w) 36 M.GJ.f M.GJ.fd K5 (bEe (K:=K) M):=by
 refine M.GJ.F.okE aAv (fun vs H Q E h=>?_) (fun cdv A outer s H vs Q E hr h=>?_)
 .obtain⟨_,_,_,_,_,_,_,_,_,_,rfl,_⟩:=h
  rfl
 .obtain⟨d,la,S,k,j,m,v,g,a,ns,rfl,D,hS,hl,P1,P2⟩:=h
  have c:=M.cF.c
  have n1:=M.eG
  have c2:=M.YC.c
  have n2:=M.K6
  have n3:=M.vQ
  have n4:=M.aA9
  refine⟨_,(aB (bQ (aJ (bZ M) (hr.mono (by walk_at "o")) rfl M.aO.m M.aO.k M.aO.b .nil aC (aA (pv 1) (aA (dR rfl M.j6) aD))))
   (aB (bQ (aJ (bZ M) (hr.mono (by walk_at "o")) rfl M.aO.m M.aO.k M.aO.b .nil aC (aA (pv 2) (aA (dR rfl M.j6) aD))))
   (aB (bQ (aJ (bZ M) (hr.mono (by walk_at "o")) rfl M.aO.m M.aO.k M.aO.b .nil aC (aA (pv 3) (aA (dR rfl M.j6) aD))))
   (aB (bQ (aJ (QM M) (hr.mono (by walk_at "o")) rfl M.jF.m M.jF.k M.jF.b .nil aC (aA (pv 2) (aA (pv 3) aD))))
   (aB (bQ (aJ (fV M) (hr.mono (by walk_at "o")) rfl M.bN.m M.bN.k M.bN.b .nil aC (aA (pv 4) aD)))
   (aB (bQ (aJ (fV M) (hr.mono (by walk_at "o")) rfl M.bN.m M.bN.k M.bN.b .nil aC (aA (pv 5) aD)))
   (aB (bF (i:=7) aAv.nd rfl (Or.inl rfl) (dX M.G4.ma (aNg M) (hr.mono (by walk_at "o")) rfl M.YC.m M.G4.b .nil aC (aA (cJ bM (bG (pv 0) rfl) (pv 1) (fun _ _=>rfl)) (aA (pv 4) (aA (pv 5) (aA (aJ (aK5 M) (hr.mono (by walk_at "o")) rfl M.tZ.m M.tZ.k M.tZ.b .nil aC (aA (pv 6) aD)) aD))))))
   (aB (bQ (dN (pv 0) M.cF.c M.iM.m (zT M) (hr.mono (by walk_at "o")) M.iM.b .nil aC (aA (pv 2) (aA (bG (pv 7) rfl) (aA (pv 3) (aA (bG (pv 7) rfl) aD))))))
   (aG (aP (cX (aA (bG (pv 7) rfl) aD)))))))))))),?_⟩
  try dsimp only[aFc]
  obtain⟨dx,hd⟩:=D.ob
  have el:SbSpec.lens [v,g]=(isLen v&&isLen g):=by unfold SbSpec.lens;simp
  simp only[SbSpec.step,bBx,el] at P1 P2
  have bad:((decide (k<8)&&(decide (j<8)&&decide (m<8)))=false\/j=m\/(isLen v&&isLen g)=false)->E (.ref M.cY) none H:=fun z=>P2 1 (by rw[if_pos z];rfl) none H D (.refl _ _)
  walk_at "go"
  refine dZ (n:=8) (fun h=>bad (.inl (by rw[decide_eq_false h];rfl))) (fun h=>?_)
  walk_at "go"
  refine dZ (n:=8) (fun h2=>bad (.inl (by rw[decide_eq_false h2,Bool.false_and,Bool.and_false]))) (fun h2=>?_)
  walk_at "go"
  refine dZ (n:=8) (fun h3=>bad (.inl (by rw[decide_eq_false h3,Bool.and_false,Bool.and_false]))) (fun h3=>?_)
  walk_at "go"
  refine aNl (fun h4=>bad (.inr (.inl h4))) (fun h4=>?_)
  walk_at "go"
  refine KH (fun h5=>bad (.inr (.inr (by rw[h5];rfl)))) (fun h5=>?_)
  walk_at "go"
  refine KH (fun h6=>bad (.inr (.inr (by rw[h6,Bool.and_false])))) (fun h6=>?_)
  rw[if_neg (by rw[decide_eq_true h,decide_eq_true h2,decide_eq_true h3,h5,h6];simpa using h4)] at P1 P2
  obtain⟨vs,u,hla,hu,hvl,hL⟩:=D.at_ h
  obtain⟨hr8,hB⟩:=pZ (D.kp k)
  walk_at "go"
  refine cI (SqL.of hla) (bH (j:=k) hu) ?_
  walk_at "go"
  refine⟨a,ns,rfl,hS,hl,fun e H1 dd s1=>?_,fun gl e vg H1 s1 hG=>?_⟩
  .rw[e] at P2
   exact P2 1 rfl dd H1 (D.mono s1) (.vX s1)
  .rw[e] at P1 P2
   walk_at "go"
   refine bC1 (hL.mono s1) hB (d9 h5) (d9 h6) hG fun p dxp vu vr H2 s2 hp hLu hLr=>?_
   have s12:=s1.trans s2
   have D2:=D.mono s12
   obtain⟨dx2,hd2⟩:=D2.ob
   obtain⟨hF1,hF2⟩:=aYk (v:=v) (m:=g) (g:=gl) hr8 hB.sz
   walk_at "go"
   refine⟨d,la,S,j,m,vu,_,vr,_,rfl,D2,h2,h3,hLu,hF1,hLr,hF2,fun z dd H' s=>?_,fun z1 z2 H3 D3 sb3=>?_⟩
   .refine P2 6 ?_ dd H' (D2.mono s) (.vX (s12.trans s))
    show (if SbSpec.keeps (SbPack.cut v g gl (SbSpec.listAt S k)).upper=true/\SbSpec.keeps (SbPack.cut v g gl (SbSpec.listAt S k)).rest=true then _ else _:SbSpec.State×SbSpec.Answer).2=_
    rw[if_neg]
    .rfl
    .rintro⟨y1,y2⟩
     rcases z with z|z
     .have z:SbSpec.keeps (SbPack.cut v g gl (SbSpec.listAt S k)).upper=false:=z
      rw[z] at y1
      cases y1
     .have z:SbSpec.keeps (SbPack.cut v g gl (SbSpec.listAt S k)).rest=false:=z
      rw[z] at y2
      cases y2
   .have hnpla:p≠la:=jO hp (s12 _ _ hla) (by intro z;cases z)
    have hp3:=sb3 _ _ hp hnpla
    have ez:(SbSpec.keeps (SbPack.cut v g gl (SbSpec.listAt S k)).upper=true/\SbSpec.keeps (SbPack.cut v g gl (SbSpec.listAt S k)).rest=true):=⟨z1,z2⟩
    simp only[if_pos ez] at P1
    walk_at "go"
    refine⟨by show 1<=sizeLine;decide,fun y ny=>?_⟩
    exact P1 [(SbPack.cut v g gl (S.getD k [])).penalty] rfl _ _ (D3.mono (aU ny _)) ⟨y,rfl,aH⟩ (Sb.aEp (fun b o eb ne=>sb3 b o (s12 _ _ eb) ne) (aU ny _))
noncomputable def bEf:Sp:=fun vs H Q E=>Ex5_ fun d la S(k j:Nat)=>And3_ (vs=[.ref d,.int k,.int j]) (mL M.cF.C H d la S) (vW M H d la S (SbSpec.step S (.move k j)) Q E)
theorem aKj:bJ P w K mg base (CXE P w) 36 M.xG.f M.xG.fd zL (bEf M):=by
 refine M.xG.F.okE XM (fun vs H Q E h=>?_) (fun cdv A outer s H vs Q E hr h=>?_)
 .obtain⟨_,_,_,_,_,rfl,_⟩:=h
  rfl
 .obtain⟨d,la,S,k,j,rfl,D,P1,P2⟩:=h
  have c:=M.cF.c
  have n1:=M.eG
  refine⟨_,(aB (bQ (aJ (bZ M) (hr.mono (by walk_at "o")) rfl M.aO.m M.aO.k M.aO.b .nil aC (aA (pv 1) (aA (dR rfl M.j6) aD))))
   (aB (bQ (aJ (bZ M) (hr.mono (by walk_at "o")) rfl M.aO.m M.aO.k M.aO.b .nil aC (aA (pv 2) (aA (dR rfl M.j6) aD))))
   (aB (bQ (aJ (QM M) (hr.mono (by walk_at "o")) rfl M.jF.m M.jF.k M.jF.b .nil aC (aA (pv 1) (aA (pv 2) aD))))
   (aB (bF (i:=3) XM.nd rfl (Or.inl rfl) (cJ bM (bG (pv 0) rfl) (pv 1) (fun _ _=>rfl)))
   (aB (bQ (dN (pv 0) M.cF.c M.iM.m (zT M) (hr.mono (by walk_at "o")) M.iM.b .nil aC (aA (pv 1) (aA (aJ (aG6 M) (hr.mono (by walk_at "o")) rfl M.qK.m M.qK.k M.qK.b .nil aC (aA (pv 3) aD)) (aA (pv 2) (aA (aJ (YT M) (hr.mono (by walk_at "o")) rfl M.jH.m M.jH.k M.jH.b .nil aC (aA (pv 3) aD)) aD))))))
   (aG (aP (cX (aA (dF cU rfl M.sI boot_len (aA (cJ bM (bG (pv 0) rfl) (pv 2) (fun _ _=>rfl)) aD)) aD))))))))),?_⟩
  try dsimp only[aFc]
  obtain⟨dx,hd⟩:=D.ob
  simp only[SbSpec.step,aKe] at P1 P2
  have bad:((decide (k<8)&&decide (j<8))=false\/j=k)->E (.ref M.cY) none H:=fun z=>P2 1 (by rw[if_pos z];rfl) none H D (.refl _ _)
  walk_at "go"
  refine dZ (n:=8) (fun h=>bad (.inl (by rw[decide_eq_false h];rfl))) (fun h=>?_)
  walk_at "go"
  refine dZ (n:=8) (fun h2=>bad (.inl (by rw[decide_eq_false h2,Bool.and_false]))) (fun h2=>?_)
  walk_at "go"
  refine aNl (fun h4=>bad (.inr h4.symm)) (fun h4=>?_)
  rw[if_neg (by rw[decide_eq_true h,decide_eq_true h2];simpa using fun z=>h4 (Eq.symm z))] at P1 P2
  obtain⟨vs,u,hla,hu,hvl,hL⟩:=D.at_ h
  obtain⟨hr8,hB⟩:=pZ (D.kp k)
  have hz:=hB.sz
  have hln:=hB.len
  walk_at "go"
  refine cI (SqL.of hla) (bH (j:=k) hu) ?_
  walk_at "go"
  refine⟨u,_,rfl,hL,by lia,fun v1 H1 s1 hL1=>?_⟩
  walk_at "go"
  refine⟨u,_,rfl,hL.mono s1,hB,fun v2 H2 s2 hL2=>?_⟩
  have s12:=s1.trans s2
  have D2:=D.mono s12
  obtain⟨dx2,hd2⟩:=D2.ob
  have hstay:(TX (S.getD k [])).all (right 8)=true:=yI hr8 (fun t ht=>(List.mem_filter.mp ht).1)
  have hzs:=aHx (fun t=> !moves t) (S.getD k [])
  have hk0:=HB.mp (D.kp k)
  have hks:SbSpec.keeps (TX (S.getD k []))=true:=HB.mpr ⟨hstay,by show szL (TX _)+1<=2000;unfold TX;lia⟩
  walk_at "go"
  refine⟨d,la,S,k,j,v1,_,v2,_,rfl,D2,h,h2,hL1.mono s2,aPp hstay (by unfold TX;lia),hL2,aYl hr8 hz,fun z dd H' s=>?_,fun z1 z2 H3 D3 sb3=>?_⟩
  .have z:SbSpec.keeps (yJ (S.getD k []))=false:=z.elim (fun z=>by rw[hks] at z;cases z) id
   refine P2 6 ?_ dd H' (D2.mono s) (.vX (s12.trans s))
   have z': ¬SbSpec.keeps (((SbSpec.listAt S k).filter moves).flatMap outOf)=true:=fun y=>by
    have z:SbSpec.keeps (((SbSpec.listAt S k).filter moves).flatMap outOf)=false:=z
    rw[z] at y
    cases y
   rw[if_neg z']
   rfl
  .have z':SbSpec.keeps (((SbSpec.listAt S k).filter moves).flatMap outOf)=true:=z2
   simp only[if_pos z'] at P1
   obtain⟨dx3,hd3⟩:=D3.ob
   obtain⟨vs3,u3,hla3,hu3,hvl3,hL3⟩:=D3.at_ h2
   rw[aRn (by rw[List.length_set];exact D.len) h2] at hL3
   obtain⟨a3,xs3,rfl,ha3,hx3⟩:=hL3
   have hs3:=SqL.of (K:=K) ha3
   walk_at "go"
   refine cI (SqL.of hla3) (bH (j:=j) hu3) ?_
   walk_at "go"
   rw[hx3.len]
   refine⟨by show 1<=sizeLine;decide,fun y ny=>?_⟩
   exact P1 [((yJ (S.getD k [])).length:Int)] rfl _ _ (D3.mono (aU ny _)) ⟨y,rfl,aH⟩ (Sb.aEp (fun b o eb ne=>sb3 b o (s12 _ _ eb) ne) (aU ny _))
end
end Pr
end
section
namespace Pr
open PySem PySem.Spec PyProof.Rows L2 SbThing SbPack
structure bC2 (K:PySem.W.Frag)(a:Addr)(n:Int)(u:Value):Prop where
 ex: ∃es ep,K.lookup a=some ⟨.type "dict",none,.dict es ep,#[]⟩/\(∀e∈es,∃k t,e.key= .int k t/\e.hash=hashInt k)/\findBy Value.isInt es n=some u
noncomputable def aZw (K:PySem.W.Frag)(a:Addr)(ty:TE):TE:=fun σ H Q=>ty σ H fun y H1=> ∃n u v,y= .int n/\bC2 K a n u/\RelV v u/\Q v H1
theorem aYm {X:Cx}{a:Addr}{name:Str}{p pos:Pos}{i:Expr}{ty:TE}(hg:Gl X name)(hm:X.mg name=some (.ref a))(hi:PE X i ty)(hs:aX3 i)(hd:(name==("__debug__":Str))=false:=by decide):
  PE X (.Subscript (.Name name p) i pos) (aZw X.K a ty):=by
 intro pins s σ H Q I h
 refine aIj PySem.F.slot_dict_getitem.lookup hs (yL I hg hm (thn (hi pins s σ H _ I h) fun iv s2⟨y,H2,I2,ry,x,u,v,ey,tb,rv,q⟩=>?_) hd)
 subst ey
 obtain⟨t,rfl⟩:=(show ∃t,iv=Value.int x t from ry)
 obtain⟨es,n,hl,hk,hf⟩:=tb.ex
 have hmp:s2.heap.MapOf (intKind X.prog X.w) a (fun k=>findBy Value.isInt es k):=⟨_,es,n,I2.kIn _ _ hl,⟨rfl,rfl,rfl⟩,rfl,fun e he=>by
  obtain⟨k,t,e1,e2⟩:=hk e he
  exact⟨k,by rw[e1];exact intKind_is X.prog X.w k t,e2⟩,fun _=>rfl⟩
 exact⟨hmp.typeIs,wpAny_getItem_of (intKind_is X.prog X.w x t) hmp hf ⟨v,H2,I2.tok _,rv,q⟩⟩
theorem bC3 {K:PySem.W.Frag}{σ:L2.St}{H:Hp}{a:Addr}{ty:TE}{Q:VK}(h:ty σ H fun y H1=> ∃n u v,y= .int n/\bC2 K a n u/\RelV v u/\Q v H1):aZw K a ty σ H Q:=h
section
variable{P:Program}{w:World}{K:PySem.W.Frag}{mg:Str->Option Value}{base:Heap}(M:Md w K mg)
noncomputable def aYn (C:Addr):Sp:=fun vs H Q _=>Ex4_ fun(p:Addr)(a:Addr×Bool)(x:Int)(r:List Int)=>And3_ (vs=[.ref p]) (gQ K C a H p (x::r)) (∀H':Hp,gQ K C a H' p r->Sb p H H'->Q (.int x) H')
theorem aEr:bJ P w K mg base CX0 2 M.cP.f M.cP.fd mW (aYn (K:=K) M.bL.C):=by
 have T:=rdC M
 have GE:bJ P w K mg base CX0 1 M.cG.f M.cG.fd gG (Y0 K M.bL.C):=Y4 M.cG.F T
 refine M.cP.F.ok rQ (fun vs H Q E h=>?_) (fun cdv A outer s H vs Q E hr h=>?_)
 .obtain⟨p,a,x,r,rfl,_⟩:=h
  rfl
 .obtain⟨p,a,x,r,rfl,hR,k⟩:=h
  have c:=M.bL.c
  have n1:=M.pX
  have n2:=M.uV
  refine⟨_,aB (bR (nZ (lN (pv 0) T.c M.cG.m GE (hr.mono (by walk_at "o")) M.cG.b .nil aQj)) Z5 bC)
   (aB (bF (i:=1) rQ.nd rfl (Or.inl rfl) (cJ bM (bG (pv 0) rfl) (bG (pv 0) rfl) (fun _ _=>rfl)))
   (aB (R8 (pv 0) aQ aIb) (aG (aP (pv 1))))),?_⟩
  try dsimp only[aFc]
  obtain⟨dx,ns,i,hp,hS,hu,hi,hl⟩:=id hR
  walk_at "go"
  refine⟨p,a,_,rfl,hR,?_⟩
  walk_at "go"
  have hlt:i<ns.length:=by
   rcases Nat.lt_or_ge i ns.length with z|z
   .exact z
   .rw[List.drop_eq_nil_of_le z] at hu
    cases hu
  have hx:ns[i]?=some x/\ns.drop (i+1)=r:=by
   rw[List.drop_eq_getElem_cons hlt] at hu
   injection hu with h1 h2
   exact⟨by rw[List.getElem?_eq_getElem hlt,h1],h2⟩
  refine cI hS.sq (bH (j:=i) (v:= .int x) (by rw[List.getElem?_map,hx.1];rfl)) ?_
  walk_at "go"
  have sb:Sb p H (upd H p (.ins M.bL.C dx (rdf a.1 (i+1)))):=Sb.upd
  exact k _ ⟨dx,ns,i+1,aH,gQ.sq hp hS sb,hx.2,hlt,hl⟩ sb
theorem aYo (xs:List V)(i n:Nat)(h:i+n<=xs.length):aCt xs (some (i:Int)) (some ((i+n:Nat):Int))=(xs.drop i).take n:=by
 unfold aCt
 rw[HT.aBy,HT.aBy,Nat.min_eq_left h,Nat.min_eq_left (show i<=xs.length by lia)]
 congr 1
 lia
noncomputable def bEg (C:Addr):Sp:=fun vs H Q _=>Ex4_ fun(p:Addr)(a:Addr×Bool)(n:Nat)(r:List Int)=>And4_ (vs=[.ref p]) (gQ K C a H p ((n:Int)::r)) (n<=r.length) (∀(q:Addr)(H':Hp),H q=none->gQ K C a H' p (r.drop n)->H' q=some (.lst ((r.take n).map V.int))->Sb p H H'->Q (.ref q) H')
theorem aYp:bJ P w K mg base CX0 3 M.jU.f M.jU.fd nW (bEg (K:=K) M.bL.C):=by
 refine M.jU.F.ok qH (fun vs H Q E h=>?_) (fun cdv A outer s H vs Q E hr h=>?_)
 .obtain⟨p,a,n,r,rfl,_⟩:=h
  rfl
 .obtain⟨p,a,n,r,rfl,hR,hn,k⟩:=h
  have c:=M.bL.c
  have n1:=M.pX
  have n2:=M.uV
  refine⟨_,aB (bF (i:=1) qH.nd rfl (Or.inl rfl) (lN (pv 0) M.bL.c M.cP.m (aEr M) (hr.mono (by walk_at "o")) M.cP.b .nil aQj))
   (aB (bF (i:=2) qH.nd rfl (Or.inl rfl) (bG (pv 0) rfl))
   (aB (R8 (pv 0) (pv 1) aIb)
   (aG (aP (pD uE (bG (pv 0) rfl) (qX (pv 2)) (qX (bG (pv 0) rfl))))))),?_⟩
  try dsimp only[aFc]
  obtain⟨dx0,i0,hp0⟩:=hR.ins
  walk_at "go"
  refine⟨p,a,_,r,rfl,hR,fun H1 R1 s1=>?_⟩
  obtain⟨dx,ns,i,hp,hS,hu,hi,hl⟩:=id R1
  walk_at "go"
  have sb:Sb p H1 (upd H1 p (.ins M.bL.C dx (rdf a.1 (i+n)))):=Sb.upd
  have hlen:i+n<=ns.length:=by
   have:=congrArg List.length hu
   rw[List.length_drop] at this
   lia
  have e:upd H1 p (.ins M.bL.C dx (lX "place" (.int ((i:Int)+(n:Int))) (rdf a.1 i)))=upd H1 p (.ins M.bL.C dx (rdf a.1 (i+n))):=rfl
  rw[e]
  have hS2:=gQ.sq hp hS sb
  have hp2:upd H1 p (.ins M.bL.C dx (rdf a.1 (i+n))) p=some _:=aH
  walk_at "go"
  refine Q7 hS2.sq fun q nq=>?_
  rw[show (i:Int)+(n:Int)=((i+n:Nat):Int) by lia,aYo _ _ _ (by rw[List.length_map];exact hlen)]
  have e2:((ns.map V.int).drop i).take n=(r.take n).map V.int:=by rw[<- List.map_drop,<- List.map_take,hu]
  rw[e2]
  have s2:=aU nq (.lst ((r.take n).map V.int))
  have nq1:H q=none:=by
   cases eq:H q with
   |none=>rfl
   |some o=>
    have hqp:q≠p:=fun z=>by subst z;rw[aH] at nq;cases nq
    rw[aM hqp,s1 _ _ eq hqp] at nq
    cases nq
  refine k q _ nq1 ⟨dx,ns,i+n,s2 _ _ aH,hS2.same s2,by rw[<- List.drop_drop,hu],hlen,hl⟩ aH (fun b o eb ne=>s2 _ _ ((aM ne).trans (s1 b o eb ne)))
end
end Pr
end
section
namespace Pr
open PySem PySem.Spec PyProof.Rows L2 SbThing SbPack
theorem TY:aAr aAw (aL zN) {kind:= .function,names:=[(".0",.local),("k",.local),("reader",.free)],isGenerator:=false,isCoroutine:=false,more:=[]} [("k",3)]:=⟨rfl,by decide +kernel,by decide +kernel,by decide +kernel,by decide +kernel⟩
noncomputable def callName:Nat->Str
 |0=>"put"|1=>"told"|2=>"size"|3=>"pack"|4=>"unpack"|5=>"join"|6=>"shift"|7=>"fit"|8=>"places"|9=>"cut"|_=>"move"
noncomputable def SJ:Nat->Nat
 |0=>1|1=>1|2=>2|3=>6|4=>3|5=>2|6=>3|7=>4|8=>4|9=>5|_=>2
noncomputable def SM:Nat->Nat
 |0=>1|9=>1|_=>0
noncomputable def YW (K:PySem.W.Frag)(a:Addr):Prop:= ∀k:Nat,k<=10-> ∃t,bC2 K a k (.ref t)/\Tup K t [.str (callName k),.int (SJ k),.int (SM k)]
noncomputable def CW (rows:List (List Int)):List Int:=rows.flatMap fun r=>(r.length:Int)::r
structure CallAt (C:Addr)(H:Hp)(c:Addr)(k:Nat)(ws:List Int)(rows:List (List Int)):Prop where
 ex: ∃dx wl rl qs,H c=some (.ins C dx [("name",.str (callName k)),("whole",.ref wl),("rows",.ref rl)])/\H wl=some (.lst (ws.map V.int))/\H rl=some (.lst (qs.map V.ref))/\Paired (fun(q:Addr)(r:List Int)=>H q=some (.lst (r.map V.int))) qs rows
theorem Paired.snoc {α β:Type}{F:α->β->Prop}: ∀{l₁:List α}{l₂:List β}{a:α}{b:β},Paired F l₁ l₂->F a b->Paired F (l₁++[a]) (l₂++[b])
 |_,_,_,_,.nil,h=> .cons h .nil
 |_,_,_,_,.cons r t,h=> .cons r (Paired.snoc t h)
section
variable{P:Program}{w:World}{K:PySem.W.Frag}{mg:Str->Option Value}{base:Heap}(M:Md w K mg)
noncomputable def aI2 (C R:Addr):Sp:=fun vs H Q _=>Ex8_ fun(c dx p:Addr)(a:Addr×Bool)(k:Nat)(ws t:List Int)(rows:List (List Int))=>And7_ (vs=[.ref c,.ref p]) (H c=some (.ins C dx [])) (gQ K R a H p ((k:Int)::(ws++(CW rows++t)))) (k<=10) (ws.length=SJ k) (rows.length=SM k) (∀H',CallAt C H' c k ws rows->gQ K R a H' p t->(∀b o,H b=some o->b≠p->b≠c->H' b=some o)->Q .non H')
theorem aKk (hC:YW K M.Y9):bJ P w K mg base (CXE P w) 4 M.xH.f M.xH.fd zO (aI2 (K:=K) M.yD.C M.bL.C):=by
 refine M.xH.F.okE oX (fun vs H Q E h=>?_) (fun cdv A outer s H vs Q E hr h=>?_)
 .obtain⟨_,_,_,_,_,_,_,_,rfl,_⟩:=h
  rfl
 .obtain⟨c,dx,p,a,k,ws,t,rows,rfl,hc,hR,hk,hw,hrw,kk1⟩:=h
  have cc:=M.yD.c
  have n1:=M.VF
  have n2:=M.QF
  have n3:=M.VG
  refine⟨_,aB (bF (i:=2) oX.nd rfl (Or.inl rfl) (aYm rfl M.aR1 (lN (pv 1) M.bL.c M.cP.m (aEr M).noE (hr.mono (by walk_at "o")) M.cP.b .nil aC) (fun _ _=>rfl)))
   (aB (fW (pv 0) (cJ Z8 (pv 2) aQ (fun _ _=>rfl)) rfl)
   (aB (fW (pv 0) (aGw (own:=[("k",3)]) rfl oX.nd (DK rfl M.RT (aA (cJ Z8 (pv 2) aQ (fun _ _=>rfl)) aD)) TY (fun _ _ _ _ _=>cV (i:=3) oX.nd rfl (Or.inl rfl)) (fun _ _ _ _ _=>WK) (fun _ _ _ _ _=>lN (pv 1) M.bL.c M.cP.m (aEr M) (hr.mono (by walk_at "o")) M.cP.b .nil aQj)) rfl)
   (aG (fW (pv 0) (aGw (own:=[("k",3)]) rfl oX.nd (DK rfl M.RT (aA (cJ Z8 (pv 2) aQ (fun _ _=>rfl)) aD)) TY (fun _ _ _ _ _=>cV (i:=3) oX.nd rfl (Or.inl rfl)) (fun _ _ _ _ _=>WK) (fun _ _ _ _ _=>lN (pv 1) M.bL.c M.jU.m (aYp M) (hr.mono (by walk_at "o")) M.jU.b .nil aQj)) rfl)))),?_⟩
  try dsimp only[aFc]
  obtain⟨dx0,i0,hp0⟩:=hR.ins
  have ncp:c≠p:=jO hc hp0 (by intro z;injection z with _ _ z;cases z)
  obtain⟨tt,tab,tup⟩:=hC k hk
  walk_at "go"
  refine bC3 ?_
  walk_at "go"
  refine⟨p,a,_,_,rfl,hR,fun H1 R1 s1=>?_⟩
  have hc1:=s1 _ _ hc ncp
  refine⟨_,_,.ref tt,rfl,tab,rfl,?_⟩
  walk_at "go"
  refine aQu (tup.sq H1) (bH (j:=0) rfl) ?_
  walk_at "go"
  generalize hH2:upd H1 c (.ins M.yD.C dx (lX "name" (.str (callName k)) []))=H2
  have hc2:H2 c=some (.ins M.yD.C dx [("name",.str (callName k))]):=by rw[<- hH2,aH];rfl
  have R2:gQ K M.bL.C a H2 p (ws++(CW rows++t)):=by
   obtain⟨dxr,ns,i,hpr,hS,rr⟩:=R1
   rw[<- hH2]
   refine⟨dxr,ns,i,(aM (Ne.symm ncp)).trans hpr,V8 hS (Sb.upd (p:=c)) fun u e z=>?_,rr⟩
   rw[hc1] at e
   cases e
   rcases z with z|⟨_,z⟩ <;>cases z
  have f2: ∀b o,H b=some o->b≠p->b≠c->H2 b=some o:=fun b o e h1 h2=>by rw[<- hH2,aM h2];exact s1 b o e h1
  clear hH2
  obtain⟨dx2,i2,hp2⟩:=R2.ins
  refine aRd ?_
  walk_at "go"
  refine aQu (tup.sq H2) (bH (j:=1) rfl) ?_
  walk_at "go"
  refine⟨(SJ k:Int),rfl,by lia,by rw[<- hw];have:=aK0 R2;rw[List.length_append] at this;lia,fun D nD=>?_⟩
  rw[show ((SJ k:Nat):Int).toNat=SJ k by lia]
  have npD:p≠D:=aX hp2 nD
  have ncD:c≠D:=aX hc2 nD
  have lws:ws.length<=100000:=by have:=aK0 R2;rw[List.length_append] at this;lia
  have hbig:=(by decide:(10000000:Nat)<=sizeLine)
  refine WL (fun i H'=>Sb p H2 H'/\gQ K M.bL.C a H' p (ws.drop i++(CW rows++t))/\H' D=some (.lst ((ws.take i).map V.int))) ⟨(Sb.refl p H2).new nD _,QL R2 nD,aH⟩ (fun i H' hi⟨sb,Ri,hD⟩=>?_) (fun H3⟨sb3,R3,hD3⟩=>?_)
  .have hil:i<ws.length:=by lia
   rw[List.drop_eq_getElem_cons hil] at Ri
   obtain⟨dxi,ii,hpi⟩:=Ri.ins
   walk_at "go"
   refine⟨rfl,?_⟩
   refine aRe ?_
   walk_at "go"
   refine⟨p,a,_,_,rfl,Ri,fun H'' R'' sb''=>?_⟩
   have hD'':=sb'' _ _ hD (Ne.symm npD)
   refine⟨_,hD'',by rw[List.length_map,List.length_take];lia,fun b o e ne=>?_,aE2 R2 nD R'' npD,?_⟩
   .rw[aM (aX e nD)]
    exact sb'' b o (sb b o e ne) ne
   .rw[aH,List.take_add_one,List.getElem?_eq_getElem hil,List.map_append]
    rfl
  rw[<- hw,List.drop_length,List.nil_append] at R3
  rw[<- hw,List.take_length] at hD3
  have hc3:=sb3 _ _ hc2 ncp
  walk_at "go"
  generalize hH4:upd H3 c (.ins M.yD.C dx (lX "whole" (.ref D) [("name",.str (callName k))]))=H4
  have hc4:H4 c=some (.ins M.yD.C dx [("name",.str (callName k)),("whole",.ref D)]):=by rw[<- hH4,aH];rfl
  have R4:gQ K M.bL.C a H4 p (CW rows++t):=by
   obtain⟨dxr,ns,i,hpr,hS,rr⟩:=R3
   rw[<- hH4]
   refine⟨dxr,ns,i,(aM (Ne.symm ncp)).trans hpr,V8 hS (Sb.upd (p:=c)) fun u e z=>?_,rr⟩
   rw[hc3] at e
   cases e
   rcases z with z|⟨_,z⟩ <;>cases z
  have hD4:H4 D=some (.lst (ws.map V.int)):=by rw[<- hH4,aM (Ne.symm ncD)];exact hD3
  have f4: ∀b o,H b=some o->b≠p->b≠c->H4 b=some o:=fun b o e h1 h2=>by rw[<- hH4,aM h2];exact sb3 _ _ (f2 b o e h1 h2) h1
  clear hH4
  obtain⟨dx4,i4,hp4⟩:=R4.ins
  have lrw:rows.length<=1:=by
   rw[hrw]
   unfold SM
   split <;>lia
  refine aRd ?_
  walk_at "go"
  refine aQu (tup.sq H4) (bH (j:=2) rfl) ?_
  walk_at "go"
  refine⟨(SM k:Int),rfl,by lia,by lia,fun D2 nD2=>?_⟩
  rw[show ((SM k:Nat):Int).toNat=SM k by lia]
  have npD2:p≠D2:=aX hp4 nD2
  have ncD2:c≠D2:=aX hc4 nD2
  refine WL (fun i H'=>Sb p H4 H'/\gQ K M.bL.C a H' p (CW (rows.drop i)++t)/\ ∃qs:List Addr,H' D2=some (.lst (qs.map V.ref))/\Paired (fun(q:Addr)(r:List Int)=>H' q=some (.lst (r.map V.int))/\q≠D2/\q≠p/\q≠c) qs (rows.take i)) ⟨(Sb.refl p H4).new nD2 _,QL R4 nD2,[],aH,.nil⟩ (fun i H' hi⟨sb,Ri,qs,hq,hqs⟩=>?_) (fun H5⟨sb5,R5,qs,hq5,hqs5⟩=>?_)
  .have hil:i<rows.length:=by lia
   rw[List.drop_eq_getElem_cons hil] at Ri
   have et:rows.take (i+1)=rows.take i++[rows[i]]:=by rw[List.take_add_one,List.getElem?_eq_getElem hil];rfl
   generalize rows[i]=row at Ri et
   have Ri:gQ K M.bL.C a H' p ((row.length:Int)::(row++(CW (rows.drop (i+1))++t))):=by
    have e:CW (row::rows.drop (i+1))++t=(row.length:Int)::(row++(CW (rows.drop (i+1))++t)):=by
     unfold CW
     rw[List.flatMap_cons,List.append_assoc]
     rfl
    rw[<- e]
    exact Ri
   obtain⟨dxi,ii,hpi⟩:=Ri.ins
   have hci:=sb _ _ hc4 ncp
   walk_at "go"
   refine⟨rfl,?_⟩
   refine aRe ?_
   walk_at "go"
   refine⟨p,a,row.length,_,rfl,Ri,by rw[List.length_append];lia,fun q H'' nq R'' hq'' sb''=>?_⟩
   rw[List.drop_left' rfl] at R''
   rw[List.take_left' rfl] at hq''
   have nqp:q≠p:=fun z=>by subst z;rw[hpi] at nq;cases nq
   have nqc:q≠c:=fun z=>by subst z;rw[hci] at nq;cases nq
   have nqD:q≠D2:=fun z=>by subst z;rw[hq] at nq;cases nq
   have hD'':=sb'' _ _ hq (Ne.symm npD2)
   have hql:qs.length<=1:=by
    have:=hqs.length
    rw[List.length_take] at this
    lia
   refine⟨_,hD'',by rw[List.length_map];lia,fun b o e ne=>?_,aE2 R4 nD2 R'' npD2,qs++[q],by rw[aH,List.map_append];rfl,?_⟩
   .rw[aM (aX e nD2)]
    exact sb'' b o (sb b o e ne) ne
   .rw[et]
    refine Paired.snoc (Paired.aTn hqs fun q' r'⟨h1,h2,h3,h4⟩=>⟨(aM h2).trans (sb'' _ _ h1 h3),h2,h3,h4⟩) ⟨(aM nqD).trans hq'',nqD,nqp,nqc⟩
  rw[<- hrw,List.drop_length] at R5
  rw[<- hrw,List.take_length] at hqs5
  have hc5:=sb5 _ _ hc4 ncp
  walk_at "go"
  refine kk1 _ ⟨⟨dx,D,D2,qs,by rw[aH];rfl,?_,(aM (Ne.symm ncD2)).trans hq5,Paired.aTn hqs5 fun q' r'⟨h1,h2,h3,h4⟩=>(aM h4).trans h1⟩⟩ ?_ (fun b o e h1 h2=>?_)
  .rw[aM (Ne.symm ncD)]
   exact sb5 _ _ hD4 (Ne.symm npD)
  .obtain⟨dxr,ns,i,hpr,hS,rr⟩:=R5
   refine⟨dxr,ns,i,(aM (Ne.symm ncp)).trans hpr,V8 hS (Sb.upd (p:=c)) fun u e z=>?_,rr⟩
   rw[hc5] at e
   cases e
   rcases z with z|⟨_,z⟩ <;>cases z
  .rw[aM h2]
   exact sb5 _ _ (f4 b o e h1 h2) h1
end
end Pr
end
section
namespace Pr
open PySem PySem.Spec PyProof.Rows L2 SbThing SbPack
noncomputable def natN:Nat->Nat
 |0=>1|1=>1|2=>2|3=>4|4=>3|5=>2|6=>2|7=>2|8=>2|9=>3|_=>2
noncomputable def aPr (k:Nat)(ws:List Int):Prop:= ∀i,i<natN k->0<=ws.getD i 0
theorem len1 {l:List Int}(h:l.length=1): ∃a,l=[a]:=match l,h with|[a],_=>⟨a,rfl⟩
theorem len2 {l:List Int}(h:l.length=2):Ex2_ fun a b=>l=[a,b]:=match l,h with|[a,b],_=>⟨a,b,rfl⟩
theorem aTe {l:List Int}(h:l.length=3):Ex3_ fun a b c=>l=[a,b,c]:=match l,h with|[a,b,c],_=>⟨a,b,c,rfl⟩
theorem aTf {l:List Int}(h:l.length=4):Ex4_ fun a b c d=>l=[a,b,c,d]:=match l,h with|[a,b,c,d],_=>⟨a,b,c,d,rfl⟩
theorem bC4 {l:List Int}(h:l.length=5):Ex5_ fun a b c d e=>l=[a,b,c,d,e]:=match l,h with|[a,b,c,d,e],_=>⟨a,b,c,d,e,rfl⟩
theorem bC5 {l:List Int}(h:l.length=6):Ex6_ fun a b c d e f=>l=[a,b,c,d,e,f]:=match l,h with|[a,b,c,d,e,f],_=>⟨a,b,c,d,e,f,rfl⟩
theorem bEh {F:Addr->List Int->Prop}{rows:List (List Int)}{qs:List Addr}(h:rows.length=1)(p:Paired F qs rows):Ex2_ fun r0 q0=>And3_ (rows=[r0]) (qs=[q0]) (F q0 r0):=by
 match rows,h with
 |[r0],_=>
  cases p with
  |cons h1 h2=>
   cases h2
   exact⟨r0,_,rfl,rfl,h1⟩
theorem cn (j:Nat){k:Nat}(hk:k<=10)(hj:j<=10)(h:k≠j):decide (V.str (callName k)=V.str (callName j))=false:=
 (by decide +kernel: ∀a b:Fin 11,a≠b->decide (V.str (callName a.1)=V.str (callName b.1))=false) ⟨k,by lia⟩ ⟨j,by lia⟩ (fun e=>h (by cases e;rfl))
theorem natCast {x:Int}(h:0<=x): ∃n:Nat,x=(n:Int):=⟨x.toNat,by lia⟩
section
variable{P:Program}{w:World}{K:PySem.W.Frag}{mg:Str->Option Value}{base:Heap}(M:Md w K mg)
noncomputable def aWi:Sp:=fun vs H Q E=>Ex8_ fun d la S c k ws rows q=>And10_ (vs=[.ref d,.ref c]) (mL M.cF.C H d la S) (CallAt M.yD.C H c k ws rows) (k<=10) (ws.length=SJ k) (rows.length=SM k) (aPr k ws) ((∀r∈rows,r.length<=100000)) (SbNeutral.callOf k ws rows=some q) (vW M H d la S (SbSpec.step S q) Q E)
theorem aPs:bJ P w K mg base (CXE P w) 55 M.perform.f M.perform.fd RP (aWi M):=by
 refine M.perform.F.okE aDh (fun vs H Q E h=>?_) (fun cdv A outer s H vs Q E hr h=>?_)
 .obtain⟨_,_,_,_,_,_,_,_,rfl,_⟩:=h
  rfl
 .obtain⟨d,la,S,c,k,ws,rows,q,rfl,D,⟨dx,wl,rl,qs,hc,hwl,hrl,hqs⟩,hk,hw,hr1,ha,hrl1,hq,hP⟩:=h
  have cc:=M.yD.c
  have n1:=M.VF
  have n2:=M.QF
  have n3:=M.VG
  refine⟨_,(aB (bF (i:=2) aDh.nd rfl (Or.inl rfl) (bG (pv 1) rfl))
   (aB (bR (aW cT (bG (pv 1) rfl) aN (bD _)) (aG (aP (dN (pv 0) M.cF.c M.G8.m (aNk M) (hr.mono (by walk_at "o")) M.G8.b .nil aC (aA (cJ bM (pv 2) aQ (fun _ _=>rfl)) (aA (cJ bM (bG (pv 1) rfl) aQ (fun _ _=>rfl)) aD))))) bC)
   (aB (bR (aW cT (bG (pv 1) rfl) aN (bD _)) (aG (aP (dN (pv 0) M.cF.c M.wW.m (aKf M) (hr.mono (by walk_at "o")) M.wW.b .nil aC (aA (cJ bM (pv 2) aQ (fun _ _=>rfl)) aD)))) bC)
   (aB (bR (aW cT (bG (pv 1) rfl) aN (bD _)) (aG (aP (dN (pv 0) M.cF.c M.wX.m (aKg M) (hr.mono (by walk_at "o")) M.wX.b .nil aC (aA (cJ bM (pv 2) aQ (fun _ _=>rfl)) (aA (cJ bM (pv 2) aQ (fun _ _=>rfl)) aD))))) bC)
   (aB (bR (aW cT (bG (pv 1) rfl) aN (bD _)) (aG (aP (dN (pv 0) M.cF.c M.wY.m (aKi M) (hr.mono (by walk_at "o")) M.wY.b .nil aC (aA (cJ bM (pv 2) aQ (fun _ _=>rfl)) (aA (cJ bM (pv 2) aQ (fun _ _=>rfl)) (aA (cJ bM (pv 2) aQ (fun _ _=>rfl)) (aA (cJ bM (pv 2) aQ (fun _ _=>rfl)) (aA (cJ bM (pv 2) aQ (fun _ _=>rfl)) (aA (cJ bM (pv 2) aQ (fun _ _=>rfl)) aD))))))))) bC)
   (aB (bR (aW cT (bG (pv 1) rfl) aN (bD _)) (aG (aP (dN (pv 0) M.cF.c M.qO.m (aEq M) (hr.mono (by walk_at "o")) M.qO.b .nil aC (aA (cJ bM (pv 2) aQ (fun _ _=>rfl)) (aA (cJ bM (pv 2) aQ (fun _ _=>rfl)) (aA (cJ bM (pv 2) aQ (fun _ _=>rfl)) aD)))))) bC)
   (aB (bR (aW cT (bG (pv 1) rfl) aN (bD _)) (aG (aP (dN (pv 0) M.cF.c M.wZ.m (aKh M) (hr.mono (by walk_at "o")) M.wZ.b .nil aC (aA (cJ bM (pv 2) aQ (fun _ _=>rfl)) (aA (cJ bM (pv 2) aQ (fun _ _=>rfl)) aD))))) bC)
   (aB (bR (aW cT (bG (pv 1) rfl) aN (bD _)) (aG (aP (dN (pv 0) M.cF.c M.tU.m (aG9 M) (hr.mono (by walk_at "o")) M.tU.b .nil aC (aA (cJ bM (pv 2) aQ (fun _ _=>rfl)) (aA (cJ bM (pv 2) aQ (fun _ _=>rfl)) (aA (cJ bM (pv 2) aQ (fun _ _=>rfl)) aD)))))) bC)
   (aB (bR (aW cT (bG (pv 1) rfl) aN (bD _)) (aG (aP (dN (pv 0) M.cF.c M.G9.m (aNj M) (hr.mono (by walk_at "o")) M.G9.b .nil aC (aA (cJ bM (pv 2) aQ (fun _ _=>rfl)) (aA (cJ bM (pv 2) aQ (fun _ _=>rfl)) (aA (cJ bM (pv 2) aQ (fun _ _=>rfl)) (aA (cJ bM (pv 2) aQ (fun _ _=>rfl)) aD))))))) bC)
   (aB (bR (aW cT (bG (pv 1) rfl) aN (bD _)) (aG (aP (dN (pv 0) M.cF.c M.qP.m (aEo M) (hr.mono (by walk_at "o")) M.qP.b .nil aC (aA (cJ bM (pv 2) aQ (fun _ _=>rfl)) (aA (cJ bM (pv 2) aQ (fun _ _=>rfl)) (aA (cJ bM (pv 2) aQ (fun _ _=>rfl)) (aA (cJ bM (pv 2) aQ (fun _ _=>rfl)) aD))))))) bC)
   (aB (bR (aW cT (bG (pv 1) rfl) aN (bD _)) (aG (aP (dN (pv 0) M.cF.c M.GJ.m (aNm M) (hr.mono (by walk_at "o")) M.GJ.b .nil aC (aA (cJ bM (pv 2) aQ (fun _ _=>rfl)) (aA (cJ bM (pv 2) aQ (fun _ _=>rfl)) (aA (cJ bM (pv 2) aQ (fun _ _=>rfl)) (aA (cJ bM (pv 2) aQ (fun _ _=>rfl)) (aA (cJ bM (pv 2) aQ (fun _ _=>rfl)) (aA (cJ bM (bG (pv 1) rfl) aQ (fun _ _=>rfl)) aD))))))))) bC)
   (aG (aP (dN (pv 0) M.cF.c M.xG.m (aKj M) (hr.mono (by walk_at "o")) M.xG.b .nil aC (aA (cJ bM (pv 2) aQ (fun _ _=>rfl)) (aA (cJ bM (pv 2) aQ (fun _ _=>rfl)) aD)))))))))))))))),?_⟩
  try dsimp only[aFc]
  obtain⟨dxd,hd⟩:=D.ob
  have hsw:=SqL.of (K:=K) hwl
  have hsr:=SqL.of (K:=K) hrl
  walk_at "go"
  by_cases h0:k=0
  .subst h0
   obtain⟨x0,rfl⟩:=len1 hw
   obtain⟨m0,rfl⟩:=natCast (ha 0 (by decide))
   obtain⟨r0,q0,rfl,rfl,hq0⟩:=bEh hr1 hqs
   cases hq
   walk_at "go"
   refine cI hsw (bH (j:=0) rfl) ?_
   walk_at "go"
   refine cI hsr (bH (j:=0) rfl) ?_
   walk_at "go"
   exact⟨d,la,S,m0,(q0,true),r0,rfl,D,.inl ⟨rfl,.inl hq0⟩,hrl1 r0 (by simp),hP⟩
  refine nJ (cn 0 hk (by decide) h0) ?_
  walk_at "go"
  by_cases h1:k=1
  .subst h1
   obtain⟨x0,rfl⟩:=len1 hw
   obtain⟨m0,rfl⟩:=natCast (ha 0 (by decide))
   cases hq
   walk_at "go"
   refine cI hsw (bH (j:=0) rfl) ?_
   walk_at "go"
   exact⟨d,la,S,m0,rfl,D,hP⟩
  refine nJ (cn 1 hk (by decide) h1) ?_
  walk_at "go"
  by_cases h2:k=2
  .subst h2
   obtain⟨x0,x1,rfl⟩:=len2 hw
   obtain⟨m0,rfl⟩:=natCast (ha 0 (by decide))
   obtain⟨m1,rfl⟩:=natCast (ha 1 (by decide))
   cases hq
   walk_at "go"
   refine cI hsw (bH (j:=0) rfl) ?_
   walk_at "go"
   refine cI hsw (bH (j:=1) rfl) ?_
   walk_at "go"
   exact⟨d,la,S,m0,m1,rfl,D,hP⟩
  refine nJ (cn 2 hk (by decide) h2) ?_
  walk_at "go"
  by_cases h3:k=3
  .subst h3
   obtain⟨x0,x1,x2,x3,x4,x5,rfl⟩:=bC5 hw
   obtain⟨m0,rfl⟩:=natCast (ha 0 (by decide))
   obtain⟨m1,rfl⟩:=natCast (ha 1 (by decide))
   obtain⟨m2,rfl⟩:=natCast (ha 2 (by decide))
   obtain⟨m3,rfl⟩:=natCast (ha 3 (by decide))
   cases hq
   walk_at "go"
   refine cI hsw (bH (j:=0) rfl) ?_
   walk_at "go"
   refine cI hsw (bH (j:=1) rfl) ?_
   walk_at "go"
   refine cI hsw (bH (j:=2) rfl) ?_
   walk_at "go"
   refine cI hsw (bH (j:=3) rfl) ?_
   walk_at "go"
   refine cI hsw (bH (j:=4) rfl) ?_
   walk_at "go"
   refine cI hsw (bH (j:=5) rfl) ?_
   walk_at "go"
   exact⟨d,la,S,m0,m1,m2,m3,x4,x5,rfl,D,hP⟩
  refine nJ (cn 3 hk (by decide) h3) ?_
  walk_at "go"
  by_cases h4:k=4
  .subst h4
   obtain⟨x0,x1,x2,rfl⟩:=aTe hw
   obtain⟨m0,rfl⟩:=natCast (ha 0 (by decide))
   obtain⟨m1,rfl⟩:=natCast (ha 1 (by decide))
   obtain⟨m2,rfl⟩:=natCast (ha 2 (by decide))
   cases hq
   walk_at "go"
   refine cI hsw (bH (j:=0) rfl) ?_
   walk_at "go"
   refine cI hsw (bH (j:=1) rfl) ?_
   walk_at "go"
   refine cI hsw (bH (j:=2) rfl) ?_
   walk_at "go"
   exact⟨d,la,S,m0,m1,m2,rfl,D,hP⟩
  refine nJ (cn 4 hk (by decide) h4) ?_
  walk_at "go"
  by_cases h5:k=5
  .subst h5
   obtain⟨x0,x1,rfl⟩:=len2 hw
   obtain⟨m0,rfl⟩:=natCast (ha 0 (by decide))
   obtain⟨m1,rfl⟩:=natCast (ha 1 (by decide))
   cases hq
   walk_at "go"
   refine cI hsw (bH (j:=0) rfl) ?_
   walk_at "go"
   refine cI hsw (bH (j:=1) rfl) ?_
   walk_at "go"
   exact⟨d,la,S,m0,m1,rfl,D,hP⟩
  refine nJ (cn 5 hk (by decide) h5) ?_
  walk_at "go"
  by_cases h6:k=6
  .subst h6
   obtain⟨x0,x1,x2,rfl⟩:=aTe hw
   obtain⟨m0,rfl⟩:=natCast (ha 0 (by decide))
   obtain⟨m1,rfl⟩:=natCast (ha 1 (by decide))
   cases hq
   walk_at "go"
   refine cI hsw (bH (j:=0) rfl) ?_
   walk_at "go"
   refine cI hsw (bH (j:=1) rfl) ?_
   walk_at "go"
   refine cI hsw (bH (j:=2) rfl) ?_
   walk_at "go"
   exact⟨d,la,S,m0,m1,x2,rfl,D,hP⟩
  refine nJ (cn 6 hk (by decide) h6) ?_
  walk_at "go"
  by_cases h7:k=7
  .subst h7
   obtain⟨x0,x1,x2,x3,rfl⟩:=aTf hw
   obtain⟨m0,rfl⟩:=natCast (ha 0 (by decide))
   obtain⟨m1,rfl⟩:=natCast (ha 1 (by decide))
   cases hq
   walk_at "go"
   refine cI hsw (bH (j:=0) rfl) ?_
   walk_at "go"
   refine cI hsw (bH (j:=1) rfl) ?_
   walk_at "go"
   refine cI hsw (bH (j:=2) rfl) ?_
   walk_at "go"
   refine cI hsw (bH (j:=3) rfl) ?_
   walk_at "go"
   exact⟨d,la,S,m0,m1,x2,x3,rfl,D,hP⟩
  refine nJ (cn 7 hk (by decide) h7) ?_
  walk_at "go"
  by_cases h8:k=8
  .subst h8
   obtain⟨x0,x1,x2,x3,rfl⟩:=aTf hw
   obtain⟨m0,rfl⟩:=natCast (ha 0 (by decide))
   obtain⟨m1,rfl⟩:=natCast (ha 1 (by decide))
   cases hq
   walk_at "go"
   refine cI hsw (bH (j:=0) rfl) ?_
   walk_at "go"
   refine cI hsw (bH (j:=1) rfl) ?_
   walk_at "go"
   refine cI hsw (bH (j:=2) rfl) ?_
   walk_at "go"
   refine cI hsw (bH (j:=3) rfl) ?_
   walk_at "go"
   exact⟨d,la,S,m0,m1,x2,x3,rfl,D,hP⟩
  refine nJ (cn 8 hk (by decide) h8) ?_
  walk_at "go"
  by_cases h9:k=9
  .subst h9
   obtain⟨x0,x1,x2,x3,x4,rfl⟩:=bC4 hw
   obtain⟨m0,rfl⟩:=natCast (ha 0 (by decide))
   obtain⟨m1,rfl⟩:=natCast (ha 1 (by decide))
   obtain⟨m2,rfl⟩:=natCast (ha 2 (by decide))
   obtain⟨r0,q0,rfl,rfl,hq0⟩:=bEh hr1 hqs
   cases hq
   walk_at "go"
   refine cI hsw (bH (j:=0) rfl) ?_
   walk_at "go"
   refine cI hsw (bH (j:=1) rfl) ?_
   walk_at "go"
   refine cI hsw (bH (j:=2) rfl) ?_
   walk_at "go"
   refine cI hsw (bH (j:=3) rfl) ?_
   walk_at "go"
   refine cI hsw (bH (j:=4) rfl) ?_
   walk_at "go"
   refine cI hsr (bH (j:=0) rfl) ?_
   walk_at "go"
   exact⟨d,la,S,m0,m1,m2,x3,x4,(q0,true),r0,rfl,D,.inl ⟨rfl,.inl hq0⟩,hrl1 r0 (by simp),hP⟩
  refine nJ (cn 9 hk (by decide) h9) ?_
  obtain rfl:k=10:=by lia
  obtain⟨x0,x1,rfl⟩:=len2 hw
  obtain⟨m0,rfl⟩:=natCast (ha 0 (by decide))
  obtain⟨m1,rfl⟩:=natCast (ha 1 (by decide))
  cases hq
  walk_at "go"
  refine cI hsw (bH (j:=0) rfl) ?_
  walk_at "go"
  refine cI hsw (bH (j:=1) rfl) ?_
  walk_at "go"
  exact⟨d,la,S,m0,m1,rfl,D,hP⟩
end
end Pr
end
section
namespace Pr
open PySem PySem.Spec PyProof.Rows L2 SbThing SbPack
theorem aKl {S:SbSpec.State}{q:SbSpec.Call}{z:Nat}(h:(SbSpec.step S q).2= .refused z):(SbSpec.step S q).1=S/\(z=1\/z=3\/z=4\/z=6):=by
 have kept: ∀k l a,(∀z,a≠SbSpec.Answer.refused z)->(SbSpec.kept S k l a).2= .refused z->(SbSpec.kept S k l a).1=S/\(z=1\/z=3\/z=4\/z=6):=by
  intro k l a ha h
  unfold SbSpec.kept at h ⊢
  split at h
  .exact absurd h (ha z)
  .rename_i hn
   rw[if_neg hn]
   cases h
   exact⟨rfl,by simp⟩
 cases q with
 |put k r=>
  simp only[SbSpec.step] at h ⊢
  split at h
  .rename_i e
   rw[if_pos e]
   cases h
   exact⟨rfl,by simp⟩
  .rename_i e
   rw[if_neg e]
   split at h
   .cases h
    exact⟨rfl,by simp⟩
   .exact kept _ _ _ (fun z e=>by cases e) h
 |told k=>
  refine⟨rfl,?_⟩
  simp only[SbSpec.step] at h
  split at h <;>cases h
  simp
 |size k c=>
  refine⟨rfl,?_⟩
  simp only[SbSpec.step] at h
  split at h
  .cases h
   simp
  .split at h <;>cases h
 |pack k j kind how a m=>
  simp only[SbSpec.step] at h ⊢
  split at h
  .rename_i e
   rw[if_pos e]
   cases h
   exact⟨rfl,by simp⟩
  .rename_i e
   rw[if_neg e]
   exact kept _ _ _ (fun z e=>by cases e) h
 |unpack k i j=>
  simp only[SbSpec.step] at h ⊢
  split at h
  .rename_i e
   rw[if_pos e]
   cases h
   exact⟨rfl,by simp⟩
  .rename_i e
   rw[if_neg e]
   split at h
   .cases h
   .cases h
    refine⟨?_,by simp⟩
    rfl
 |join j k=>
  simp only[SbSpec.step] at h ⊢
  split at h
  .rename_i e
   rw[if_pos e]
   cases h
   exact⟨rfl,by simp⟩
  .rename_i e
   rw[if_neg e]
   exact kept _ _ _ (fun z e=>by cases e) h
 |shift k i a=>
  simp only[SbSpec.step] at h ⊢
  split at h
  .rename_i e
   rw[if_pos e]
   cases h
   exact⟨rfl,by simp⟩
  .rename_i e
   rw[if_neg e]
   split at h
   .cases h
   .cases h
    refine⟨?_,by simp⟩
    rfl
 |fit k i v m=>
  refine⟨rfl,?_⟩
  simp only[SbSpec.step] at h
  split at h
  .cases h
   simp
  .split at h
   .cases h
    simp
   .split at h <;>cases h
 |places k i x y=>
  refine⟨rfl,?_⟩
  simp only[SbSpec.step] at h
  split at h
  .cases h
   simp
  .split at h
   .cases h
   .cases h
    simp
 |cut k j m v g ns=>
  simp only[SbSpec.step] at h ⊢
  split at h
  .rename_i e
   rw[if_pos e]
   cases h
   exact⟨rfl,by simp⟩
  .rename_i e
   rw[if_neg e]
   split at h
   .cases h
    exact⟨rfl,by simp⟩
   .split at h
    .cases h
    .rename_i e2
     rw[if_neg e2]
     cases h
     exact⟨rfl,by simp⟩
 |move k j=>
  simp only[SbSpec.step] at h ⊢
  split at h
  .rename_i e
   rw[if_pos e]
   cases h
   exact⟨rfl,by simp⟩
  .rename_i e
   rw[if_neg e]
   split at h
   .cases h
   .rename_i e2
    rw[if_neg e2]
    cases h
    exact⟨rfl,by simp⟩
section
variable{P:Program}{w:World}{K:PySem.W.Frag}{mg:Str->Option Value}{base:Heap}(M:Md w K mg)
noncomputable def aYq:Sp:=fun vs H Q _=>Ex8_ fun d la S c k ws rows q=>And10_ (vs=[.ref d,.ref c]) (mL M.cF.C H d la S) (CallAt M.yD.C H c k ws rows) (k<=10) (ws.length=SJ k) (rows.length=SM k) (aPr k ws) ((∀r∈rows,r.length<=100000)) (SbNeutral.callOf k ws rows=some q) (∀v H',mL M.cF.C H' d la (SbSpec.step S q).1->NAt H' v (SbNeutral.shown (SbSpec.step S q).2)->Sb la H H'->Q v H')
theorem aTg (hx:[M.cY,M.bY,M.o9,M.jG].Nodup):bJ P w K mg base (CXE P w) 56 M.answer.f M.answer.fd XR (aYq M):=by
 refine M.answer.F.okE aSl (fun vs H Q E h=>?_) (fun cdv A outer s H vs Q E hr h=>?_)
 .obtain⟨_,_,_,_,_,_,_,_,rfl,_⟩:=h
  rfl
 .obtain⟨d,la,S,c,k,ws,rows,q,rfl,D,hc,hk,hw,hr1,ha,hrl1,hq,kk1⟩:=h
  refine⟨_,aG (aOk (Eb:=fun cls dd H'=> ∃z,cls= .ref (xOf M z)/\(SbSpec.step S q).2= .refused z/\mL M.cF.C H' d la S/\Sb la H H') uF
    (fun pn W xo=>aG (aP (aJ (aPs M) (hr.mono (by walk_at "o")) rfl M.perform.m M.perform.k M.perform.b .nil (aQo xo rfl) (aA (pv 0) (aA (pv 1) aD)))))
    (RK (C:=M.cY) (ts:=fun _=>aO3 (aLg (aCs (tUn (rU fun i=>V.int (-i)) (tC (.int 1))) aFb))) uF rfl M.kW (fun pn e oe dd hp hd=>aG (aP (cX (aA (T3 zU aQ) aD))))
    (RK (C:=M.bY) (ts:=fun _=>aO3 (aLg (aCs (tUn (rU fun i=>V.int (-i)) (tC (.int 3))) aFb))) uF rfl M.dG (fun pn e oe dd hp hd=>aG (aP (cX (aA (T3 zU aQ) aD))))
    (RK (C:=M.o9) (ts:=fun _=>aO3 (aLg (aCs (tUn (rU fun i=>V.int (-i)) (tC (.int 4))) aFb))) uF rfl M.yC (fun pn e oe dd hp hd=>aG (aP (cX (aA (T3 zU aQ) aD))))
    (RK (C:=M.jG) (ts:=fun _=>aO3 (aLg (aCs (tUn (rU fun i=>V.int (-i)) (tC (.int 6))) aFb))) uF rfl M.wU (fun pn e oe dd hp hd=>aG (aP (cX (aA (T3 zU aQ) aD)))) aOj))))),?_⟩
  try dsimp only[aFc]
  refine⟨?_,?_⟩
  .walk_at "go"
   refine⟨d,la,S,c,k,ws,rows,q,rfl,D,hc,hk,hw,hr1,ha,hrl1,hq,fun ns e v H' D' hN sb=>?_,fun z e dd H' D' sb=>⟨z,rfl,e,D',sb⟩⟩
   refine kk1 v H' D' ?_ sb
   rw[e]
   exact hN
  .rintro cls dd σ' H' ⟨z,rfl,e,D',sb⟩
   obtain⟨e1,e2⟩:=aKl e
   rw[e1,e] at kk1
   have fin: ∀n:Int,n=(z:Int)->aLg (aCs (tUn (rU fun i=>V.int (-i)) (tC (.int n))) aFb) σ' H' Q:=fun n en=>by
    walk_at "go"
    refine⟨by show 1<=sizeLine;decide,fun y ny=>?_⟩
    refine kk1 _ _ (D'.mono (aU ny _)) ⟨y,rfl,?_⟩ (Sb.aEp sb (aU ny _))
    rw[aH,en]
    rfl
   simp only[List.nodup_cons,List.mem_cons,List.mem_nil_iff,or_false,not_or,List.not_mem_nil,not_false_eq_true,List.nodup_nil,and_true] at hx
   obtain⟨⟨h12,h13,h14⟩,⟨h23,h24⟩,h34⟩:=hx
   rcases e2 with rfl|rfl|rfl|rfl
   .exact⟨_,rfl,M.kW.cls,aAc (fin 1 rfl)⟩
   .exact⟨_,rfl,M.dG.cls,RV (Ne.symm h12) (aAc (fin 3 rfl))⟩
   .exact⟨_,rfl,M.yC.cls,RV (Ne.symm h13) (RV (Ne.symm h23) (aAc (fin 4 rfl)))⟩
   .exact⟨_,rfl,M.wU.cls,RV (Ne.symm h14) (RV (Ne.symm h24) (RV (Ne.symm h34) (aAc (fin 6 rfl))))⟩
end
end Pr
end
section
namespace Pr
open SbThing SbPack
theorem aPt {p:Int}{n k:Nat}(h:PyWqasaw.shape p=some (n,k)):Ex1_ fun(j:Nat)=>And4_ (p=(j:Int)) (j<=10) (n=SJ j) (k=SM j):=by
 by_cases hp:0<=p/\p<=10
 .obtain⟨j,rfl⟩:=natCast hp.1
  have e:=(by decide +kernel: ∀a:Fin 11,PyWqasaw.shape ((a.1:Nat):Int)=some (SJ a.1,SM a.1)) ⟨j,by lia⟩
  have e:=h.symm.trans e
  cases e
  exact⟨j,rfl,by lia,rfl,rfl⟩
 .have ne: ∀i:Int,0<=i->i<=10->p≠i:=fun i a b e=>hp (e▸⟨a,b⟩)
  unfold PyWqasaw.shape at h
  rw[if_neg (ne 0 (by decide) (by decide)),if_neg (ne 1 (by decide) (by decide)),if_neg (ne 2 (by decide) (by decide)),if_neg (ne 3 (by decide) (by decide)),if_neg (ne 4 (by decide) (by decide)),if_neg (ne 5 (by decide) (by decide)),if_neg (ne 6 (by decide) (by decide)),if_neg (ne 7 (by decide) (by decide)),if_neg (ne 8 (by decide) (by decide)),if_neg (ne 9 (by decide) (by decide)),if_neg (ne 10 (by decide) (by decide))] at h
  cases h
theorem aYr {r x s:List Int}(h:PyFlat.row r=some (x,s)):r=(x.length:Int)::(x++s):=by
 cases r with
 |nil=>cases h
 |cons n r=>
  simp only[PyFlat.row] at h
  split at h
  .rename_i c
   cases h
   have e:(r.take n.toNat).length=n.toNat:=by rw[List.length_take];lia
   rw[e,List.take_append_drop,show ((n.toNat:Nat):Int)=n by lia]
  .cases h
theorem aNn: ∀{k:Nat}{r t:List Int}{xs:List (List Int)},PyFlat.rows k r=some (xs,t)->r=CW xs++t/\xs.length=k
 |0,r,t,xs,h=>by
  cases h
  exact⟨rfl,rfl⟩
 |k+1,r,t,xs,h=>by
  rw[PyFlat.rows] at h
  split at h
  .cases h
  .rename_i x s e
   split at h
   .cases h
   .rename_i ys u e2
    cases h
    obtain⟨h1,h2⟩:=aNn e2
    refine⟨?_,by rw[List.length_cons,h2]⟩
    rw[aYr e,h1]
    unfold CW
    rw[List.flatMap_cons,List.append_assoc]
    rfl
theorem aNo {l t:List Int}{c:List (List Int)}(h:PyFlat.call PyWqasaw.shape l=some (c,t)):Ex3_ fun(k:Nat)(ws:List Int)(rows:List (List Int))=>And5_ (k<=10) (ws.length=SJ k) (rows.length=SM k) (c=((k:Int)::ws)::rows) (l=(k:Int)::(ws++(CW rows++t))):=by
 cases l with
 |nil=>cases h
 |cons p r=>
  rw[PyFlat.call] at h
  split at h
  .cases h
  .rename_i n k e
   obtain⟨j,rfl,hj,rfl,rfl⟩:=aPt e
   split at h
   .cases h
   .rename_i hn
    split at h
    .cases h
    .rename_i xs u e2
     cases h
     obtain⟨h1,h2⟩:=aNn e2
     refine⟨j,r.take (SJ j),xs,hj,by rw[List.length_take];lia,h2,rfl,?_⟩
     rw[<- h1,List.take_append_drop]
theorem aPu {f:Nat}{l:List Int}{cs:List (List (List Int))}(h:PyFlat.calls PyWqasaw.shape f l=some cs)(hl:l≠[]): ∃(f' k:Nat)(ws t:List Int)(rows:List (List Int))(cs':List (List (List Int))),k<=10/\ws.length=SJ k/\rows.length=SM k/\cs=(((k:Int)::ws)::rows)::cs'/\l=(k:Int)::(ws++(CW rows++t))/\PyFlat.calls PyWqasaw.shape f' t=some cs':=by
 cases l with
 |nil=>exact absurd rfl hl
 |cons p r=>
  cases f with
  |zero=>cases h
  |succ f=>
   rw[PyFlat.calls] at h
   split at h
   .cases h
   .rename_i c t e
    obtain⟨k,ws,rows,h1,h2,h3,h4,h5⟩:=aNo e
    split at h
    .cases h
    .rename_i cs' e2
     cases h
     exact⟨f,k,ws,t,rows,cs',h1,h2,h3,by rw[h4],h5,e2⟩
theorem aI3 {f:Nat}{cs:List (List (List Int))}(h:PyFlat.calls PyWqasaw.shape f []=some cs):cs=[]:=by
 cases f <;>(cases h;rfl)
theorem aWj {k:Nat}{ws:List Int}{rows:List (List Int)}(hk:k<=10)(hw:ws.length=SJ k)(hr:rows.length=SM k):PyWqasaw.whole (((k:Int)::ws)::rows)=((k:Int)::ws)::rows:=by
 rcases(show k=0\/k=1\/k=2\/k=3\/k=4\/k=5\/k=6\/k=7\/k=8\/k=9\/k=10 by lia) with rfl|rfl|rfl|rfl|rfl|rfl|rfl|rfl|rfl|rfl|rfl
 .obtain⟨a,rfl⟩:=len1 hw
  match rows,hr with
  |[r],_=>rfl
 .obtain⟨a,rfl⟩:=len1 hw
  cases List.eq_nil_of_length_eq_zero hr
  rfl
 .obtain⟨a,b,rfl⟩:=len2 hw
  cases List.eq_nil_of_length_eq_zero hr
  rfl
 .obtain⟨a,b,c,d,e,f,rfl⟩:=bC5 hw
  cases List.eq_nil_of_length_eq_zero hr
  rfl
 .obtain⟨a,b,c,rfl⟩:=aTe hw
  cases List.eq_nil_of_length_eq_zero hr
  rfl
 .obtain⟨a,b,rfl⟩:=len2 hw
  cases List.eq_nil_of_length_eq_zero hr
  rfl
 .obtain⟨a,b,c,rfl⟩:=aTe hw
  cases List.eq_nil_of_length_eq_zero hr
  rfl
 .obtain⟨a,b,c,d,rfl⟩:=aTf hw
  cases List.eq_nil_of_length_eq_zero hr
  rfl
 .obtain⟨a,b,c,d,rfl⟩:=aTf hw
  cases List.eq_nil_of_length_eq_zero hr
  rfl
 .obtain⟨a,b,c,d,e,rfl⟩:=bC4 hw
  match rows,hr with
  |[r],_=>rfl
 .obtain⟨a,b,rfl⟩:=len2 hw
  cases List.eq_nil_of_length_eq_zero hr
  rfl
theorem wholes: ∀{f:Nat}{l:List Int}{cs:List (List (List Int))},PyFlat.calls PyWqasaw.shape f l=some cs->cs.map PyWqasaw.whole=cs
 |f,[],cs,h=>by
  cases aI3 h
  rfl
 |f,p::r,cs,h=>by
  cases f with
  |zero=>cases h
  |succ f=>
   rw[PyFlat.calls] at h
   split at h
   .cases h
   .rename_i c t e
    obtain⟨k,ws,rows,h1,h2,h3,rfl,_⟩:=aNo e
    split at h
    .cases h
    .rename_i cs' e2
     cases h
     rw[List.map_cons,aWj h1 h2 h3,wholes e2]
 termination_by f=>f
theorem aTh {k:Nat}{ws:List Int}{rows:List (List Int)}(hk:k<=10)(hw:ws.length=SJ k)(hr:rows.length=SM k)(h:SbNeutral.asked1 (((k:Int)::ws)::rows)=true):aPr k ws/\ ∃q,SbNeutral.callOf k ws rows=some q:=by
 rcases(show k=0\/k=1\/k=2\/k=3\/k=4\/k=5\/k=6\/k=7\/k=8\/k=9\/k=10 by lia) with rfl|rfl|rfl|rfl|rfl|rfl|rfl|rfl|rfl|rfl|rfl
 .obtain⟨a,rfl⟩:=len1 hw
  match rows,hr with
  |[r],_=>
  have h:decide (0<=a)=true:=h
  rw[decide_eq_true_eq] at h
  exact⟨fun i hi=>match i,hi with|0,_=>h,_,rfl⟩
 .obtain⟨a,rfl⟩:=len1 hw
  match rows,hr with
  |[],_=>
  have h:decide (0<=a)=true:=h
  rw[decide_eq_true_eq] at h
  exact⟨fun i hi=>match i,hi with|0,_=>h,_,rfl⟩
 .obtain⟨a,b,rfl⟩:=len2 hw
  match rows,hr with
  |[],_=>
  have h:(decide (0<=a)&&decide (0<=b))=true:=h
  simp only[Bool.and_eq_true,decide_eq_true_eq] at h
  exact⟨fun i hi=>match i,hi with|0,_=>h.1|1,_=>h.2,_,rfl⟩
 .obtain⟨a,b,c,d,e,f,rfl⟩:=bC5 hw
  match rows,hr with
  |[],_=>
  have h:(decide (0<=a)&&decide (0<=b)&&decide (0<=c)&&decide (0<=d))=true:=h
  simp only[Bool.and_eq_true,decide_eq_true_eq] at h
  exact⟨fun i hi=>match i,hi with|0,_=>h.1.1.1|1,_=>h.1.1.2|2,_=>h.1.2|3,_=>h.2,_,rfl⟩
 .obtain⟨a,b,c,rfl⟩:=aTe hw
  match rows,hr with
  |[],_=>
  have h:(decide (0<=a)&&decide (0<=b)&&decide (0<=c))=true:=h
  simp only[Bool.and_eq_true,decide_eq_true_eq] at h
  exact⟨fun i hi=>match i,hi with|0,_=>h.1.1|1,_=>h.1.2|2,_=>h.2,_,rfl⟩
 .obtain⟨a,b,rfl⟩:=len2 hw
  match rows,hr with
  |[],_=>
  have h:(decide (0<=a)&&decide (0<=b))=true:=h
  simp only[Bool.and_eq_true,decide_eq_true_eq] at h
  exact⟨fun i hi=>match i,hi with|0,_=>h.1|1,_=>h.2,_,rfl⟩
 .obtain⟨a,b,c,rfl⟩:=aTe hw
  match rows,hr with
  |[],_=>
  have h:(decide (0<=a)&&decide (0<=b))=true:=h
  simp only[Bool.and_eq_true,decide_eq_true_eq] at h
  exact⟨fun i hi=>match i,hi with|0,_=>h.1|1,_=>h.2,_,rfl⟩
 .obtain⟨a,b,c,d,rfl⟩:=aTf hw
  match rows,hr with
  |[],_=>
  have h:(decide (0<=a)&&decide (0<=b))=true:=h
  simp only[Bool.and_eq_true,decide_eq_true_eq] at h
  exact⟨fun i hi=>match i,hi with|0,_=>h.1|1,_=>h.2,_,rfl⟩
 .obtain⟨a,b,c,d,rfl⟩:=aTf hw
  match rows,hr with
  |[],_=>
  have h:(decide (0<=a)&&decide (0<=b))=true:=h
  simp only[Bool.and_eq_true,decide_eq_true_eq] at h
  exact⟨fun i hi=>match i,hi with|0,_=>h.1|1,_=>h.2,_,rfl⟩
 .obtain⟨a,b,c,d,e,rfl⟩:=bC4 hw
  match rows,hr with
  |[r],_=>
  have h:(decide (0<=a)&&decide (0<=b)&&decide (0<=c))=true:=h
  simp only[Bool.and_eq_true,decide_eq_true_eq] at h
  exact⟨fun i hi=>match i,hi with|0,_=>h.1.1|1,_=>h.1.2|2,_=>h.2,_,rfl⟩
 .obtain⟨a,b,rfl⟩:=len2 hw
  match rows,hr with
  |[],_=>
  have h:(decide (0<=a)&&decide (0<=b))=true:=h
  simp only[Bool.and_eq_true,decide_eq_true_eq] at h
  exact⟨fun i hi=>match i,hi with|0,_=>h.1|1,_=>h.2,_,rfl⟩
theorem aWk {k:Nat}{ws:List Int}{rows:List (List Int)}{q:SbSpec.Call}(S:SbSpec.State)(h:SbNeutral.callOf k ws rows=some q):SbNeutral.step S (((k:Int)::ws)::rows)=((SbSpec.step S q).1,SbNeutral.shown (SbSpec.step S q).2):=by
 have e:SbNeutral.specCall (((k:Int)::ws)::rows)=some q:=by
  show (if(0:Int)<=(k:Int) then SbNeutral.callOf (k:Int).toNat ws rows else none)=some q
  rw[if_pos (by lia),show ((k:Int)).toNat=k by lia,h]
 unfold SbNeutral.step
 rw[e]
theorem aEs {S:SbSpec.State}{k:Nat}{l:List Thing}{a:SbSpec.Answer}(h:(SbNeutral.shown a).length<=200000):(SbNeutral.shown (SbSpec.kept S k l a).2).length<=200000:=by
 unfold SbSpec.kept
 split
 .exact h
 .show 1<=200000
  decide
theorem aTi {S:SbSpec.State}(hS: ∀k,SbSpec.keeps (S.getD k [])=true)(q:SbSpec.Call):(SbNeutral.shown (SbSpec.step S q).2).length<=200000:=by
 have one: ∀i:Int,(SbNeutral.shown (SbSpec.one i)).length<=200000:=fun i=>(by decide:1<=200000)
 have no: ∀z:Nat,(SbNeutral.shown (SbSpec.no z)).length<=200000:=fun i=>(by decide:1<=200000)
 cases q with
 |put k r=>
  simp only[SbSpec.step]
  split
  .exact no _
  .split
   .exact no _
   .exact aEs (one _)
 |told k=>
  simp only[SbSpec.step]
  split
  .exact no _
  .have h:=hS k
   unfold SbSpec.keeps at h
   rw[Bool.and_eq_true,decide_eq_true_eq] at h
   have h2:(SbThing.told (S.getD k [])).length<=2000:=h.2
   exact Nat.le_trans h2 (by decide)
 |size k c=>
  simp only[SbSpec.step]
  split
  .exact no _
  .split <;>exact(by decide:3<=200000)
 |pack k j kind how a m=>
  simp only[SbSpec.step]
  split
  .exact no _
  .refine aEs ?_
   unfold SbSpec.saidOf
   split
   .exact(by decide:2<=200000)
   .split
    .exact(by decide:2<=200000)
    .split <;>exact(by decide:2<=200000)
 |unpack k i j=>
  simp only[SbSpec.step]
  split
  .exact no _
  .split
   .exact one _
   .exact no _
 |join j k=>
  simp only[SbSpec.step]
  split
  .exact no _
  .exact aEs (one _)
 |shift k i a=>
  simp only[SbSpec.step]
  split
  .exact no _
  .split
   .exact one _
   .exact no _
 |fit k i v m=>
  simp only[SbSpec.step]
  split
  .exact no _
  .split
   .exact no _
   .split <;>exact(by decide:2<=200000)
 |places k i x y=>
  simp only[SbSpec.step]
  split
  .exact no _
  .split
   .rename_i c w h d z a l e
    obtain⟨h1,h2⟩:=pZ (hS k)
    have e:(S.getD k [])[i]?=some (.box c w h d z a l):=e
    have h3:=aEd e
    have h4:=h2.sz
    have hm:=List.mem_of_getElem? e
    have hR:=List.all_eq_true.mp h1 _ hm
    have:=(vI 8 9 _ hR).1 h d x (y-a)
    have e2:lH (leavesIn 9) h d (.box c w h d z a l) x (y-a)=leaves x y (.box c w h d z a l):=by
     show leavesIn 9 ⟨c,w,h,d,z,x,y-a+a⟩ l=leavesIn 9 ⟨c,w,h,d,z,x,y⟩ l
     rw[show y-a+a=y by lia]
    rw[e2] at this
    show ((leaves x y (.box c w h d z a l)).flatMap SbSpec.leafNums).length<=200000
    have this:((leaves x y (.box c w h d z a l)).flatMap SbSpec.leafNums).length<=96*szT (.box c w h d z a l):=this
    lia
   .exact no _
 |cut k j m v g ns=>
  simp only[SbSpec.step]
  split
  .exact no _
  .split
   .exact no _
   .split
    .exact one _
    .exact no _
 |move k j=>
  simp only[SbSpec.step]
  split
  .exact no _
  .split
   .exact one _
   .exact no _
end Pr
end
section
namespace Pr
open PySem PySem.Spec PyProof.Rows L2 SbThing SbPack
section
variable{H:Hp}{n:Addr}{o0:HO}(hn:H n=some o0)(h1: ∀xs,o0≠ .lst xs)(h2: ∀kvs,o0≠ .dK kvs)
include hn h1 h2
mutual
theorem eX.noX: ∀{v:V}{r:_root_.M.Raw},eX T0 H v r->eX (fun b=>b≠n) H v r
 |_,_,.mk _ h hf=> .mk (fun z=>by subst z;rw[h] at hn;cases hn;exact h2 _ rfl) h (bV.noX hf)
theorem bV.noX: ∀{kvs:List (Key×V)}{fs:_root_.M.gP},bV T0 H kvs fs->bV (fun b=>b≠n) H kvs fs
 |_,_,.nil=> .nil
 |_,_,.cons h t=> .cons (gZ.noX h) (bV.noX t)
theorem gZ.noX: ∀{v:V}{x:_root_.M.FV},gZ T0 H v x->gZ (fun b=>b≠n) H v x
 |_,_,.int=> .int
 |_,_,.sd0=> .sd0
 |_,_,.sd1=> .sd1
 |_,_,.lst _ h t=> .lst (fun z=>by subst z;rw[h] at hn;cases hn;exact h1 _ rfl) h (d7.noX t)
 |_,_,.thing h=> .thing (eX.noX h)
theorem d7.noX: ∀{vs:List V}{l:_root_.M.fD},d7 T0 H vs l->d7 (fun b=>b≠n) H vs l
 |_,_,.nil=> .nil
 |_,_,.cons h t=> .cons (eX.noX h) (d7.noX t)
end
theorem LAt.aRo {H':Hp}{v:V}{l:List Thing}(h:LAt H v l)(s:Sb n H H'):LAt H' v l:=
 gZ.aJl (gZ.imp (fun b u hb e=>⟨trivial,s b u e hb⟩) (gZ.noX hn h1 h2 h.fv))
theorem mL.aRo {H':Hp}{C d la:Addr}{S:List (List Thing)}(D:mL C H d la S)(hd:d≠n)(s:Sb n H H'):mL C H' d la S:=by
 refine⟨let ⟨dx,e⟩:=D.ob;⟨dx,s _ _ e hd⟩,?_,D.len,D.kp⟩
 obtain⟨vs,e,l,a⟩:=D.ex
 refine⟨vs,s _ _ e (fun z=>by subst z;rw[e] at hn;cases hn;exact h1 _ rfl),l,fun k v hk=>(a k v hk).aRo hn h1 h2 s⟩
end
theorem aYs {K:PySem.W.Frag}{R C p d la:Addr}{a:Addr×Bool}{H H':Hp}{u:List Int}{S:List (List Thing)}(h:gQ K R a H p u)(D:mL C H d la S)(s:Sb la H H'):gQ K R a H' p u:=by
 obtain⟨dx,ns,i,hp,hS,r⟩:=h
 obtain⟨a0,rest,xs,hl,_⟩:=D.ll
 refine⟨dx,ns,i,s _ _ hp (jO hp hl (by intro z;cases z)),V8 hS s fun u e z=>?_,r⟩
 rw[hl] at e
 cases e
 rcases z with z|⟨_,z⟩
 .cases ns with
  |nil=>cases z
  |cons x r=>cases z
 .cases z
section
variable{P:Program}{w:World}{K:PySem.W.Frag}{mg:Str->Option Value}{base:Heap}(M:Md w K mg)
theorem aYt {C:Addr}{H:Hp}{Q:Addr->Hp->Prop}{E:XK}(k: ∀p la H',H p=none->Same H H'->mL C H' p la SbSpec.start->Q p H'): ∀x dx,H x=none->H dx=none->dx≠x->aHs C (.ref x::([]++[])) (upd (upd H dx (.own x)) x (.ins C dx [])) (fun v H2=>v= .non/\Q x H2) E:=by
 intro x dx nx nd ne
 have s0:Same H (upd (upd H dx (.own x)) x (.ins C dx [])):=fun b o e=>by
  rw[aM (aX e nx),aM (aX e nd)]
  exact e
 exact⟨x,dx,rfl,aH,fun la H' _ D sb=>⟨rfl,k x la H' nx (fun b o e=>sb b o (s0 b o e) (aX e nx)) D⟩⟩
theorem aYu {C R p:Addr}{a:Addr×Bool}{k:Nat}{ws t:List Int}{rows:List (List Int)}{H:Hp}{Q:Addr->Hp->Prop}{E:XK}(hR:gQ K R a H p ((k:Int)::(ws++(CW rows++t))))(hk:k<=10)(hw:ws.length=SJ k)(hr:rows.length=SM k)
  (kk: ∀c H',CallAt C H' c k ws rows->gQ K R a H' p t->Sb p H H'->Q c H'): ∀x dx,H x=none->H dx=none->dx≠x->aI2 (K:=K) C R (.ref x::([.ref p]++[])) (upd (upd H dx (.own x)) x (.ins C dx [])) (fun v H2=>v= .non/\Q x H2) E:=by
 intro x dx nx nd ne
 have s0:Same H (upd (upd H dx (.own x)) x (.ins C dx [])):=fun b o e=>by
  rw[aM (aX e nx),aM (aX e nd)]
  exact e
 have R1:gQ K R a (upd (upd H dx (.own x)) x (.ins C dx [])) p ((k:Int)::(ws++(CW rows++t))):=QL (QL hR nd) (by rw[aM (Ne.symm ne)];exact nx)
 exact⟨x,dx,p,a,k,ws,t,rows,rfl,aH,R1,hk,hw,hr,fun H' c1 r1 f1=>⟨rfl,kk x H' c1 r1 fun b o e nb=>f1 b o (s0 b o e) nb (aX e nx)⟩⟩
noncomputable def pAnswers (K:PySem.W.Frag):Sp:=fun vs H Q _=>Ex2_ fun(a:Addr)(ns:List Int)=>And5_ (vs=[.ref a]) (SqL K H a (ns.map V.int)) (ns.length<=100000) (PyWqasaw.answers_asked ns=true) (∀(H':Hp)(p:Addr),H' p=some (.lst ((PyWqasaw.answers ns).map V.int))->Q (.ref p) H')
theorem aKm {K:PySem.W.Frag}{C:Addr}{a:Addr×Bool}{H H':Hp}{p:Addr}{u:List Int}(h:gQ K C a H p u)(s:Same H H'):gQ K C a H' p u:=by
 obtain⟨dx,ns,i,hp,hS,r⟩:=h
 exact⟨dx,ns,i,s _ _ hp,hS.same s,r⟩
theorem aYv {C p:Addr}{a:Addr×Bool}{H:Hp}{k:Nat}{ws t:List Int}{rows:List (List Int)}(h:gQ K C a H p ((k:Int)::(ws++(CW rows++t)))): ∀r∈rows,r.length<=100000:=by
 intro r hr
 have h1:=aK0 h
 rw[List.length_cons,List.length_append,List.length_append] at h1
 have h2:r.length<=(CW rows).length:=by
  clear h h1
  induction rows with
  |nil=>cases hr
  |cons x xs ih=>
   have e:(CW (x::xs)).length=(x.length+1)+(CW xs).length:=by
    unfold CW
    rw[List.flatMap_cons,List.length_append,List.length_cons]
   rcases List.mem_cons.mp hr with rfl|z
   .lia
   .have:=ih z
    lia
 lia
theorem aPv (hC:YW K M.Y9)(hx:[M.cY,M.bY,M.o9,M.jG].Nodup):bJ P w K mg base (CXE P w) 58 M.answers.f M.answers.fd RQ (pAnswers K):=by
 have GE:bJ P w K mg base CX0 1 M.cG.f M.cG.fd gG (Y0 K M.bL.C):=Y4 M.cG.F (rdC M)
 refine M.answers.F.okE xY (fun vs H Q E h=>?_) (fun cdv A outer s H vs Q E hr h=>?_)
 .obtain⟨_,_,rfl,_⟩:=h
  rfl
 .obtain⟨a1,ns,rfl,hS,hl,hask,kk1⟩:=h
  obtain⟨am,hS⟩:=SqM.of hS
  refine⟨_,(aB (bF (i:=1) xY.nd rfl (Or.inl rfl) (dX M.jA.ma (yF M) (hr.mono (by walk_at "o")) rfl M.bL.m M.jA.b .nil aC (aA (pv 0) aD)))
   (aB (bF (i:=2) xY.nd rfl (Or.inl rfl) (uX M.wV.ma (aKc M) (hr.mono (by walk_at "o")) rfl M.cF.m M.wV.b .nil aC))
   (aB (bF (i:=3) xY.nd rfl (Or.inl rfl) (cX aD))
   (aB (aLd PassesOwn.«leaving» (U3 (nZ (lN (pv 1) M.bL.c M.cG.m (vU M) (hr.mono (by walk_at "o")) M.cG.b .nil aC))) (aB (bF (i:=4) xY.nd rfl (Or.inl rfl) (aX4 (aJ (aTg M hx) (hr.mono (by walk_at "o")) rfl M.answer.m M.answer.k M.answer.b .nil aC (aA (pv 2) (aA (dX M.xH.ma (aKk M hC) (hr.mono (by walk_at "o")) rfl M.yD.m M.xH.b .nil aC (aA (pv 1) aD)) aD)))))
   (aB (bQ (vY PySem.F.plainAttrs_list PySem.F.slot_list_append PySem.F.type_list_append DP (pv 3) (aA (dF cU rfl M.sI boot_len (aA (pv 4) aD)) aD)))
   (aG (bQ (vY PySem.F.plainAttrs_list PySem.F.slot_list_extend PySem.F.type_list_extend mV (pv 3) (aA (pv 4) aD)))))))
   (aG (aP (pv 3))))))),?_⟩
  try dsimp only[aFc]
  walk_at "go"
  refine aVv hS hl fun p H1 np s1 R1=>?_
  walk_at "go"
  refine aYt fun d la H2 nd s2 D2=>?_
  walk_at "go"
  refine⟨Nat.zero_le _,fun n nn=>?_⟩
  walk_at "go"
  have hask': ∃cs,PyFlat.calls PyWqasaw.shape ns.length ns=some cs/\cs.length<=16/\(∀c∈cs,SbNeutral.asked1 c=true)/\PyWqasaw.answers ns=PyFlat.told (PyFlat.played SbNeutral.step SbSpec.start cs):=by
   unfold PyWqasaw.answers_asked at hask
   unfold PyWqasaw.answers
   have ec:PyWqasaw.calls ns=PyFlat.calls PyWqasaw.shape ns.length ns:=by
    unfold PyWqasaw.calls
    split
    .rename_i e
     exact e.symm
    .rename_i cs e
     rw[e,wholes e]
   rw[ec] at hask ⊢
   cases e:PyFlat.calls PyWqasaw.shape ns.length ns with
   |none=>
    rw[e] at hask
    cases hask
   |some cs=>
    rw[e] at hask
    have hask:(PyFlat.atMost 16 cs&&SbNeutral.asked cs)=true:=hask
    rw[Bool.and_eq_true] at hask
    obtain⟨h1,h2⟩:=hask
    unfold PyFlat.atMost at h1
    unfold SbNeutral.asked at h2
    simp only[Bool.and_eq_true,decide_eq_true_eq] at h1 h2
    exact⟨cs,rfl,h1,fun c hc=>List.all_eq_true.mp h2.1.1.1 c hc,rfl⟩
  obtain⟨cs0,hcs0,hlen0,hask0,eans⟩:=hask'
  obtain⟨dx1,i1,hp1⟩:=R1.ins
  obtain⟨dxd,hd2⟩:=D2.ob
  have hp2:=s2 _ _ hp1
  have ndp:d≠p:=fun z=>by subst z;rw[hp1] at nd;cases nd
  have npn:p≠n:=aX hp2 nn
  have ndn:d≠n:=aX hd2 nn
  have hbig:=(by decide:(10000000:Nat)<=sizeLine)
  refine⟨fun m σ H'=> ∃(x:Option V)(f:Nat)(u acc:List Int)(S:SbSpec.State)(cs:List (List (List Int))),m=cs.length/\σ=[some (.ref a1),some (.ref p),some (.ref d),some (.ref n),x]/\gQ K M.bL.C (a1,am) H' p u/\(∀o,mL M.cF.C (upd H' n o) d la S)/\H' n=some (.lst (acc.map V.int))/\PyFlat.calls PyWqasaw.shape f u=some cs/\(∀c∈cs,SbNeutral.asked1 c=true)/\acc++PyFlat.told (PyFlat.played SbNeutral.step S cs)=PyWqasaw.answers ns/\acc.length+200001*cs.length<=200001*16,⟨_,none,ns.length,ns,[],SbSpec.start,cs0,rfl,rfl,QL (aKm R1 s2) nn,fun o=>?_,aH,hcs0,hask0,by rw[eans];rfl,by rw[List.length_nil];lia⟩,?_⟩
  .rw[gD]
   exact D2.mono (aU nn o)
  .rintro m σ H3 ⟨x,f,u,acc,S,cs,rfl,rfl,R3,D3,hn3,hcs,hasks,eacc,lacc⟩
   obtain⟨dx3,i3,hp3⟩:=R3.ins
   walk_at "go"
   refine⟨p,_,u,rfl,R3,?_⟩
   walk_at "go"
   refine eN (fun c=>?_) (fun c=>?_)
   .have c:u≠[]:=by simpa using c
    obtain⟨f',k,ws,t,rows,cs',hk,hw,hrw,rfl,rfl,hcs'⟩:=aPu hcs c
    obtain⟨hok,q,hq⟩:=aTh hk hw hrw (hasks _ (List.mem_cons_self ..))
    refine⟨fun σ' H'=> ∃m',m'<_/\_,fun _ _ h=>h,?_⟩
    walk_at "go"
    refine⟨n,_,hn3,trivial,fun od=>?_⟩
    have D4:=D3 (.frz od (.lst (acc.map V.int)))
    have R4:gQ K M.bL.C (a1,am) (upd H3 n (.frz od (.lst (acc.map V.int)))) p ((k:Int)::(ws++(CW rows++t))):=aE2 (aKm R1 s2) nn R3 npn
    have hn4:upd H3 n (.frz od (.lst (acc.map V.int))) n=some (.frz od (.lst (acc.map V.int))):=aH
    generalize hH4:upd H3 n (.frz od (.lst (acc.map V.int)))=H4 at D4 R4 hn4
    obtain⟨dx4,i4,hp4⟩:=R4.ins
    walk_at "go"
    refine aYu R4 hk hw hrw fun c5 H5 C5 R5 sb5=>?_
    have D5:=D4.aRo hp4 (fun _ z=>by cases z) (fun _ z=>by cases z) ndp sb5
    have hn5:=sb5 _ _ hn4 (Ne.symm npn)
    walk_at "go"
    refine⟨d,la,S,c5,k,ws,rows,q,rfl,D5,C5,hk,hw,hrw,hok,aYv R4,hq,fun v H6 D6 N6 sb6=>?_⟩
    obtain⟨vs6,hla,_⟩:=D5.ex
    have hn6:=sb6 _ _ hn5 (fun z=>by subst z;rw[hla] at hn5;cases hn5)
    have R6:=aYs R5 D5 sb6
    obtain⟨a6,rfl,ha6⟩:=N6
    have na6:a6≠n:=fun z=>by subst z;rw[hn6] at ha6;cases ha6
    refine⟨hn6,?_⟩
    have hA: ∀o,upd H6 n o a6=some (.lst ((SbNeutral.shown (SbSpec.step S q).2).map V.int)):=fun o=>(aM na6).trans ha6
    have hle:=aTi (S:=S) D4.kp q
    have hlc:acc.length+200001*(cs'.length+1)<=200001*16:=by rw[List.length_cons] at lacc;exact lacc
    walk_at "go"
    refine⟨.inl ⟨rfl,_,SqL.of aH⟩,?_⟩
    walk_at "go"
    refine⟨a6,_,rfl,.inl (SqL.of (hA _)),?_⟩
    walk_at "go"
    refine Q8 aH (by rw[List.length_map];lia) ?_
    rw[gD]
    walk_at "go"
    refine⟨.inl ⟨rfl,_,SqL.of aH⟩,?_⟩
    walk_at "go"
    refine Y6 aH (hA _) (by rw[List.length_append,List.length_map,List.length_map,List.length_singleton];lia) ?_
    rw[gD]
    walk_at "go"
    refine⟨_,Nat.lt_succ_self _,some (.ref a6),f',t,acc++(((SbNeutral.shown (SbSpec.step S q).2).length:Int)::SbNeutral.shown (SbSpec.step S q).2),(SbSpec.step S q).1,cs',rfl,rfl,aE2 (aKm R1 s2) nn R6 npn,fun o=>?_,?_,hcs',fun c hc=>hasks c (List.mem_cons_of_mem _ hc),?_,?_⟩
    .rw[gD]
     exact D6.aRo hn6 (fun _ z=>by cases z) (fun _ z=>by cases z) ndn Sb.upd
    .rw[aH,List.length_map]
     simp
    .rw[<- eacc]
     show _=acc++PyFlat.told ((SbNeutral.step S _).2::PyFlat.played SbNeutral.step (SbNeutral.step S _).1 cs')
     rw[aWk S hq]
     unfold PyFlat.told
     rw[List.flatMap_cons,List.append_assoc]
    .rw[List.length_append,List.length_cons]
     lia
   .have c:u=[]:=by simpa using c
    subst c
    have e:=aI3 hcs
    subst e
    walk_at "go"
    refine kk1 _ n ?_
    have e2:acc=PyWqasaw.answers ns:=by
     rw[<- eacc]
     show acc=acc++[]
     rw[List.append_nil]
    rw[<- e2]
    exact hn3
end
end Pr
end
section
namespace Pr
open PySem PySem.Spec PyProof.Rows L2
noncomputable def adr (K:PySem.W.Frag)(x:Str):Addr:=match PySem.W.nsIn K mainGlobals x with
 |some (some (.ref a))=>a
 |_=>0
noncomputable def mth (K:PySem.W.Frag)(C:Addr)(m:Str):Addr:=match PySem.W.findIn K (.ref C) m with
 |some (some (.ref f))=>f
 |_=>0
noncomputable def aYw (K:PySem.W.Frag)(f:Addr):Option FuncData:=match K.lookup f with
 |some ⟨_,_,.func fd,_⟩=>some fd
 |_=>none
noncomputable def bC6 (x q:Str)(s:Stmt)(fd:FuncData):FuncData:=PySem.W.fnOf x q (RG s) (gA s) (aL s) .none fd.kwdefaults fd.doc fd.pyModule fd.annotations fd.code fd.closureTuple
noncomputable abbrev aNp (K:PySem.W.Frag)(f:Addr)(x q:Str)(s:Stmt):Prop:=aYw K f=(aYw K f).map (bC6 x q s)
noncomputable def codeB (K:PySem.W.Frag)(f:Addr)(q:Str):Bool:=match aYw K f with
 |some fd=>PySem.W.codeIn K fd.code q&&PySem.W.keepIn K (.ref f)&&PySem.W.isFn K (.ref f)
 |none=>false
noncomputable def fnB (K:PySem.W.Frag)(x:Str):Bool:=match PySem.W.nsIn K mainGlobals x with
 |some (some (.ref f))=>codeB K f x
 |_=>false
noncomputable def mtB (K:PySem.W.Frag)(C:Addr)(m q:Str):Bool:=match PySem.W.findIn K (.ref C) m with
 |some (some (.ref f))=>codeB K f q
 |_=>false
noncomputable def clB (K:PySem.W.Frag)(x:Str):Bool:=match PySem.W.nsIn K mainGlobals x with
 |some (some (.ref C))=>PySem.W.plainGet K C Str.empty&&PySem.W.hasDictIn K C&&PySem.W.plainOver K C&&PySem.W.makesIn K C&&PySem.W.keepIn K (.ref C)&&(PySem.W.findIn K (.ref C) "__setattr__"==some (some (.builtin "object.__setattr__")))
 |_=>false
noncomputable def xcB (K:PySem.W.Frag)(x:Str):Bool:=match PySem.W.nsIn K mainGlobals x with
 |some (some (.ref C))=>ZF K C
 |_=>false
noncomputable def coB (K:PySem.W.Frag)(x:Str)(i:Int):Bool:=match PySem.W.nsIn K mainGlobals x with
 |some (some (.int j _))=>j==i
 |_=>false
noncomputable def rfB (K:PySem.W.Frag)(x:Str):Bool:=match PySem.W.nsIn K mainGlobals x with
 |some (some (.ref _))=>true
 |_=>false
noncomputable def aB8:List V->List Value->Bool
 |[],[]=>true
 | .int i::vs,.int j _::us=>i==j&&aB8 vs us
 | .str x::vs,.str y _::us=>x==y&&aB8 vs us
 | .ref a::vs,.ref b::us=>a==b&&aB8 vs us
 |_,_=>false
theorem YX: ∀{vs:List V}{us:List Value},aB8 vs us=true->Vals vs us
 |[],[],_=> .nil
 | .int i::vs,.int j t::us,h=>by
  have h:(i==j&&aB8 vs us)=true:=h
  rw[Bool.and_eq_true,beq_iff_eq] at h
  exact .cons ⟨t,by rw[h.1]⟩ (YX h.2)
 | .str x::vs,.str y t::us,h=>by
  have h:(x==y&&aB8 vs us)=true:=h
  rw[Bool.and_eq_true,beq_iff_eq] at h
  exact .cons ⟨t,by rw[h.1]⟩ (YX h.2)
 | .ref a::vs,.ref b::us,h=>by
  have h:(a==b&&aB8 vs us)=true:=h
  rw[Bool.and_eq_true,beq_iff_eq] at h
  exact .cons (show Value.ref b=Value.ref a by rw[h.1]) (YX h.2)
noncomputable def aTj (K:PySem.W.Frag)(a:Addr)(xs:List V):Bool:=match K.lookup a with
 |some ⟨c,_,.seq its _,_⟩=>c== .type "tuple"&&decide (its.size<=1000)&&aB8 xs its.toList
 |_=>false
theorem wQ {K:PySem.W.Frag}{a:Addr}{xs:List V}(h:aTj K a xs=true):Tup K a xs:=by
 unfold aTj at h
 split at h
 .rename_i c od its n sl e
  rw[Bool.and_eq_true,Bool.and_eq_true,beq_iff_eq,decide_eq_true_eq] at h
  exact⟨_,its,n,e,h.1.1,rfl,Nat.le_trans h.1.2 (by decide),YX h.2⟩
 .cases h
section
variable{w:World}{K:PySem.W.Frag}{hp:Heap}{mg:Str->Option Value}(X:K.In hp)(G:hp.Ns mainGlobals mg)
theorem uD {x:Str}(h:rfB K x=true):PySem.W.nsIn K mainGlobals x=some (some (.ref (adr K x))):=by
 unfold rfB at h
 unfold adr
 split at h
 .rename_i e
  rw[e]
 .cases h
theorem aEt {f:Addr}{x q:Str}{s:Stmt}(h:codeB K f q=true)(e:aNp K f x q s): ∃fd,Fun K x q s f fd/\PySem.W.keepIn K (.ref f)=true/\PySem.W.isFn K (.ref f)=true:=by
 unfold codeB at h
 unfold aNp at e
 split at h
 .rename_i fd ef
  rw[ef] at e
  rw[Bool.and_eq_true,Bool.and_eq_true] at h
  unfold aYw at ef
  split at ef
  .rename_i oc od fd' sl el
   cases ef
   have e:=Option.some.inj e
   refine⟨_,bAe (oc:=oc) (od:=od) (osl:=sl) (kV:=fd.kwdefaults) (doc:=fd.doc) (pm:=fd.pyModule) (an:=fd.annotations) (cdv:=fd.code) (ct:=fd.closureTuple) ?_ h.1.1 h.1.2,h.1.2,h.2⟩
   rw[el]
   congr 2
   exact congrArg Data.func e
  .cases ef
 .cases h
theorem bC7 {x:Str}(h:fnB K x=true):rfB K x=true/\codeB K (adr K x) x=true:=by
 unfold fnB at h
 unfold rfB adr
 split at h
 .rename_i f e
  try rw[e]
  exact⟨rfl,h⟩
 .cases h
theorem aWl {C:Addr}{m q:Str}(h:mtB K C m q=true):PySem.W.findIn K (.ref C) m=some (some (.ref (mth K C m)))/\codeB K (mth K C m) q=true:=by
 unfold mtB at h
 unfold mth
 split at h
 .rename_i f e
  try rw[e]
  exact⟨rfl,h⟩
 .cases h
noncomputable abbrev cH (x q:Str)(s:Stmt)(ps:List Str):Prop:= ∀(kV doc pm:Value)(an:Option Addr)(cdv ct:Value)(us:List Value),us.length=ps.length->bindArgs (PySem.W.fnOf x q (RG s) (gA s) (aL s) .none kV doc pm an cdv ct) ⟨us,[]⟩=pure (ps.zip us)
include X G in
theorem bC8 {x:Str}{s:Stmt}{ps:List Str}(h:fnB K x=true)(e:aNp K (adr K x) x x s)(hb:cH x x s ps):Nonempty (FnM K mg x s ps):=by
 obtain⟨h1,h2⟩:=bC7 h
 obtain⟨fd,F,k,_⟩:=aEt h2 e
 exact⟨⟨adr K x,fd,F,F.binds hb,PySem.W.mg_of X G (uD h1),k⟩⟩
theorem bC9 {C:Addr}{x q:Str}{s:Stmt}{ps:List Str}(h:mtB K C x q=true)(e:aNp K (mth K C x) x q s)(hb:cH x q s ps):Nonempty (MtM K C x q s ps):=by
 obtain⟨h1,h2⟩:=aWl h
 obtain⟨fd,F,k,i⟩:=aEt h2 e
 exact⟨⟨mth K C x,fd,F,F.binds hb,⟨h1,i,k⟩⟩⟩
theorem aPw {x:Str}(h:clB K x=true):rfB K x=true/\Cls K (adr K x)/\PySem.W.makesIn K (adr K x)=true/\PySem.W.keepIn K (.ref (adr K x))=true:=by
 unfold clB at h
 unfold rfB adr
 split at h
 .rename_i C e
  try rw[e]
  simp only[Bool.and_eq_true,beq_iff_eq] at h
  obtain⟨⟨⟨⟨⟨h1,h2⟩,h3⟩,h4⟩,h5⟩,h6⟩:=h
  exact⟨rfl,⟨h1,h2,h3,h6⟩,h4,h5⟩
 .cases h
theorem bCa {x q:Str}{s:Stmt}{ps:List Str}(hc:clB K x=true)(h:mtB K (adr K x) "__init__" q=true)(e:aNp K (mth K (adr K x) "__init__") "__init__" q s)(hb:cH "__init__" q s ps):Nonempty (InM K (adr K x) q s ps):=by
 obtain⟨_,_,c3,c4⟩:=aPw hc
 obtain⟨h1,h2⟩:=aWl h
 obtain⟨fd,F,k,i⟩:=aEt h2 e
 exact⟨⟨_,fd,F,F.binds hb,⟨c3,h1,i,c4⟩⟩⟩
include X G in
theorem oY {x:Str}{i:Int}(h:coB K x i=true): ∃u,mg x=some u/\RelV (.int i) u:=by
 unfold coB at h
 split at h
 .rename_i j t e
  rw[beq_iff_eq] at h
  subst h
  exact⟨_,PySem.W.mg_of X G e,t,rfl⟩
 .cases h
include X G in
theorem aRp {x:Str}(h:xcB K x=true):XC K mg x (adr K x):=by
 unfold xcB at h
 unfold adr
 split at h
 .rename_i C e
  try rw[e]
  exact⟨PySem.W.mg_of X G e,h⟩
 .cases h
end
noncomputable def aKn (K:PySem.W.Frag)(a:Addr):List DictEntry:=match K.lookup a with
 |some ⟨_,_,.dict es _,_⟩=>es.toList
 |_=>[]
noncomputable def hashOf (P:Params)(e:DictEntry):Int:=match e.key with
 | .str x _=>PyData.keyHash P x
 |_=>0
noncomputable abbrev aWm (K:PySem.W.Frag)(P:Params)(a:Addr):Prop:=(aKn K a).map (·.hash)=(aKn K a).map (hashOf P)
noncomputable def aWn (K:PySem.W.Frag)(a:Addr):Bool:=match K.lookup a with
 |some ⟨c,none,.dict es _,sl⟩=>c== .type "dict"&&sl.size==0&&es.toList.all fun e=>match e.key with| .str _ _=>true|_=>false
 |_=>false
theorem aRq (P:Params): ∀(l:List DictEntry),(l.all fun e=>match e.key with| .str _ _=>true|_=>false)=true->l.map (·.hash)=l.map (hashOf P)->PySem.W.KeysLit P l
 |[],_,_=>by rw[PySem.W.KeysLit.eq_1];trivial
 |e::r,h,q=>by
  rw[List.all_cons,Bool.and_eq_true] at h
  rw[List.map_cons,List.map_cons] at q
  injection q with q1 q2
  rw[PySem.W.KeysLit.eq_2]
  refine⟨?_,aRq P r h.2 q2⟩
  have h1:=h.1
  unfold hashOf at q1
  split at h1
  .rename_i x t ek
   rw[ek] at q1
   exact⟨x,t,ek,q1⟩
  .cases h1
theorem aWo {K:PySem.W.Frag}{P:Params}{a:Addr}(h:aWn K a=true)(q:aWm K P a): ∃es n,K.lookup a=some ⟨.type "dict",none,.dict es n,#[]⟩/\PySem.W.KeysLit P es.toList:=by
 unfold aWn at h
 split at h
 .rename_i c es n sl e
  rw[Bool.and_eq_true,Bool.and_eq_true,beq_iff_eq,beq_iff_eq] at h
  obtain⟨⟨rfl,h2⟩,h3⟩:=h
  have h2:=Array.eq_empty_of_size_eq_zero h2
  subst h2
  have eE:aKn K a=es.toList:=by
   unfold aKn
   rw[e]
  unfold aWm at q
  rw[eE] at q
  exact⟨es,n,e,aRq P _ h3 q⟩
 .cases h
noncomputable def aGa (K:PySem.W.Frag)(a:Addr)(form:String):Bool:=match _root_.M.nO form with
 |some (lo,hi)=>(match PySem.W.nsIn K a (Str.ofString form) with
  |some (some (.ref t))=>aTj K t [.int lo,.int hi]
  |_=>false)
 |none=>false
noncomputable def aZx (K:PySem.W.Frag)(a:Addr):Bool:=aGa K a "length"&&aGa K a "name"&&aGa K a "class"&&aGa K a "order"&&aGa K a "way"&&aGa K a "direction"&&aGa K a "numerator"&&aGa K a "denominator"
noncomputable def aKo (K:PySem.W.Frag):List Value->List (String×String)->Bool
 |[],[]=>true
 | .ref b::us,x::xs=>aTj K b [.str (Str.ofString x.1),.str (Str.ofString x.2)]&&aKo K us xs
 |_,_=>false
theorem aNq {K:PySem.W.Frag}: ∀{us:List Value}{xs:List (String×String)},aKo K us xs=true-> ∃bs:List Addr,Vals (bs.map V.ref) us/\Paired (fun(b:Addr)(x:String×String)=>Tup K b [.str (Str.ofString x.1),.str (Str.ofString x.2)]) bs xs
 |[],[],_=>⟨[],.nil,.nil⟩
 | .ref b::us,x::xs,h=>by
  have h:(aTj K b [.str (Str.ofString x.1),.str (Str.ofString x.2)]&&aKo K us xs)=true:=h
  rw[Bool.and_eq_true] at h
  obtain⟨bs,h1,h2⟩:=aNq h.2
  exact⟨b::bs,.cons rfl h1,.cons (wQ h.1) h2⟩
noncomputable def bEi (K:PySem.W.Frag)(a:Addr)(i:Nat):Bool:=match PySem.W.nsIn K a (Str.ofString (_root_.M.kindName i)) with
 |some (some (.ref t))=>(match K.lookup t with
  |some ⟨c,_,.seq its _,_⟩=>c== .type "tuple"&&decide (its.size<=1000)&&aKo K its.toList (_root_.M.bW i)
  |_=>false)
 |_=>false
noncomputable def bEj (K:PySem.W.Frag)(a:Addr):Bool:=(List.range 12).all (bEi K a)
theorem QX {K:PySem.W.Frag}{w:World}{a:Addr}(hl:aWn K a=true)(hq:aWm K w.params a){form:String}(h:aGa K a form=true){lo hi:Int}(e:_root_.M.nO form=some (lo,hi)): ∃t,aP3 K w a (Str.ofString form) (.ref t)/\Tup K t [.int lo,.int hi]:=by
 unfold aGa at h
 rw[e] at h
 simp only at h
 split at h
 .rename_i t et
  exact⟨t,⟨aWo hl hq,et⟩,wQ h⟩
 .cases h
theorem aYx {K:PySem.W.Frag}{w:World}{a:Addr}(hl:aWn K a=true)(hq:aWm K w.params a)(h:aZx K a=true)(form:String)(lo hi:Int)(e:_root_.M.nO form=some (lo,hi)): ∃t,aP3 K w a (Str.ofString form) (.ref t)/\Tup K t [.int lo,.int hi]:=by
 unfold aZx at h
 simp only[Bool.and_eq_true] at h
 obtain⟨⟨⟨⟨⟨⟨⟨h1,h2⟩,h3⟩,h4⟩,h5⟩,h6⟩,h7⟩,h8⟩:=h
 have e':=e
 unfold _root_.M.nO at e'
 split at e'
 .exact QX hl hq h1 e
 .exact QX hl hq h2 e
 .exact QX hl hq h3 e
 .exact QX hl hq h4 e
 .exact QX hl hq h5 e
 .exact QX hl hq h6 e
 .exact QX hl hq h7 e
 .exact QX hl hq h8 e
 .cases e'
theorem aYy {K:PySem.W.Frag}{w:World}{a:Addr}(hl:aWn K a=true)(hq:aWm K w.params a)(h:bEj K a=true)(i:Nat)(hi:i<12): ∃(t:Addr)(bs:List Addr),aP3 K w a (Str.ofString (_root_.M.kindName i)) (.ref t)/\Tup K t (bs.map V.ref)/\Paired (fun(b:Addr)(x:String×String)=>Tup K b [.str (Str.ofString x.1),.str (Str.ofString x.2)]) bs (_root_.M.bW i):=by
 have h:=List.all_eq_true.mp h i (List.mem_range.mpr hi)
 unfold bEi at h
 split at h
 .rename_i t et
  split at h
  .rename_i c od its n sl e
   rw[Bool.and_eq_true,Bool.and_eq_true,beq_iff_eq,decide_eq_true_eq] at h
   obtain⟨bs,h1,h2⟩:=aNq h.2
   exact⟨t,bs,⟨aWo hl hq,et⟩,⟨_,its,n,e,h.1.1,rfl,Nat.le_trans h.1.2 (by decide),h1⟩,h2⟩
  .cases h
 .cases h
noncomputable def aZy (K:PySem.W.Frag)(a:Addr):Bool:=match K.lookup a with
 |some ⟨c,none,.dict es _,sl⟩=>c== .type "dict"&&sl.size==0&&(es.toList.all fun e=>match e.key with| .int k _=>e.hash==hashInt k|_=>false)&&(List.range 11).all fun(k:Nat)=>match findBy Value.isInt es (k:Int) with
  |some (.ref t)=>aTj K t [.str (callName k),.int (SJ k),.int (SM k)]
  |_=>false
 |_=>false
theorem aYz {K:PySem.W.Frag}{a:Addr}(h:aZy K a=true):YW K a:=by
 intro k hk
 unfold aZy at h
 split at h
 .rename_i c es n sl e
  rw[Bool.and_eq_true,Bool.and_eq_true,Bool.and_eq_true,beq_iff_eq,beq_iff_eq] at h
  obtain⟨⟨⟨rfl,h2⟩,h3⟩,h4⟩:=h
  have h2:=Array.eq_empty_of_size_eq_zero h2
  subst h2
  have h4:=List.all_eq_true.mp h4 k (List.mem_range.mpr (by lia))
  split at h4
  .rename_i t et
   refine⟨t,⟨es,n,e,fun x hx=>?_,et⟩,wQ h4⟩
   have h3:=List.all_eq_true.mp h3 x (by simpa using hx)
   split at h3
   .rename_i j tk ek
    rw[beq_iff_eq] at h3
    exact⟨j,tk,ek,h3⟩
   .cases h3
  .cases h4
 .cases h
section
variable{w:World}{K:PySem.W.Frag}{hp:Heap}{mg:Str->Option Value}(X:K.In hp)(G:hp.Ns mainGlobals mg)
noncomputable def eY {x:Str}{s:Stmt}{ps:List Str}(h:fnB K x=true)(e:aNp K (adr K x) x x s)(hb:cH x x s ps):FnM K mg x s ps:=Classical.choice (bC8 X G h e hb)
noncomputable def yK {C:Addr}{x q:Str}{s:Stmt}{ps:List Str}(h:mtB K C x q=true)(e:aNp K (mth K C x) x q s)(hb:cH x q s ps):MtM K C x q s ps:=Classical.choice (bC9 h e hb)
noncomputable def aGb {x q:Str}{s:Stmt}{ps:List Str}(hc:clB K x=true)(h:mtB K (adr K x) "__init__" q=true)(e:aNp K (mth K (adr K x) "__init__") "__init__" q s)(hb:cH "__init__" q s ps):InM K (adr K x) q s ps:=Classical.choice (bCa hc h e hb)
noncomputable def CZ {x:Str}(h:clB K x=true):ClM K mg x:=⟨adr K x,(aPw h).2.1,PySem.W.mg_of X G (uD (aPw h).1)⟩
end
end Pr
end
section
namespace Pr
open PySem PySem.Spec PyProof.Rows L2
noncomputable def kdB (K:PySem.W.Frag)(a:Addr):Bool:=match K.lookup a with
 |some ⟨c,none,_,_⟩=>c== .type "tuple"
 |_=>false
theorem bEk {K:PySem.W.Frag}{a:Addr}(h:kdB K a=true): ∃o,K.lookup a=some o/\o.cls= .type "tuple"/\o.dict=none:=by
 unfold kdB at h
 split at h
 .rename_i c d sl e
  exact⟨_,e,beq_iff_eq.mp h,rfl⟩
 .cases h
theorem bFf {us:List Value}(h:us.length=1): ∃a0,us=[a0]:=match us,h with|[a0],_=>⟨a0,rfl⟩
theorem bFg {us:List Value}(h:us.length=2): ∃a0 a1,us=[a0,a1]:=match us,h with|[a0,a1],_=>⟨a0,a1,rfl⟩
theorem bFh {us:List Value}(h:us.length=3): ∃a0 a1 a2,us=[a0,a1,a2]:=match us,h with|[a0,a1,a2],_=>⟨a0,a1,a2,rfl⟩
theorem bFi {us:List Value}(h:us.length=4): ∃a0 a1 a2 a3,us=[a0,a1,a2,a3]:=match us,h with|[a0,a1,a2,a3],_=>⟨a0,a1,a2,a3,rfl⟩
theorem bFj {us:List Value}(h:us.length=5): ∃a0 a1 a2 a3 a4,us=[a0,a1,a2,a3,a4]:=match us,h with|[a0,a1,a2,a3,a4],_=>⟨a0,a1,a2,a3,a4,rfl⟩
theorem bFk {us:List Value}(h:us.length=6): ∃a0 a1 a2 a3 a4 a5,us=[a0,a1,a2,a3,a4,a5]:=match us,h with|[a0,a1,a2,a3,a4,a5],_=>⟨a0,a1,a2,a3,a4,a5,rfl⟩
theorem bFl {us:List Value}(h:us.length=7): ∃a0 a1 a2 a3 a4 a5 a6,us=[a0,a1,a2,a3,a4,a5,a6]:=match us,h with|[a0,a1,a2,a3,a4,a5,a6],_=>⟨a0,a1,a2,a3,a4,a5,a6,rfl⟩
local macro_rules| `(tactic|walk_at "i1")=> `(tactic|(intro _ _ _ _ _ _ us hl;obtain⟨_,e⟩:=bFf hl;subst e;kernel_rfl))
local macro_rules| `(tactic|walk_at "i2")=> `(tactic|(intro _ _ _ _ _ _ us hl;obtain⟨_,_,e⟩:=bFg hl;subst e;kernel_rfl))
local macro_rules| `(tactic|walk_at "i3")=> `(tactic|(intro _ _ _ _ _ _ us hl;obtain⟨_,_,_,e⟩:=bFh hl;subst e;kernel_rfl))
local macro_rules| `(tactic|walk_at "i4")=> `(tactic|(intro _ _ _ _ _ _ us hl;obtain⟨_,_,_,_,e⟩:=bFi hl;subst e;kernel_rfl))
local macro_rules| `(tactic|walk_at "i5")=> `(tactic|(intro _ _ _ _ _ _ us hl;obtain⟨_,_,_,_,_,e⟩:=bFj hl;subst e;kernel_rfl))
local macro_rules| `(tactic|walk_at "i6")=> `(tactic|(intro _ _ _ _ _ _ us hl;obtain⟨_,_,_,_,_,_,e⟩:=bFk hl;subst e;kernel_rfl))
local macro_rules| `(tactic|walk_at "i7")=> `(tactic|(intro _ _ _ _ _ _ us hl;obtain⟨_,_,_,_,_,_,_,e⟩:=bFl hl;subst e;kernel_rfl))
theorem aNr:cH "__init__" "Fit.__init__" UJ IK:=by walk_at "i6"
theorem aGc:cH "__init__" "Gives.__init__" IV wC:=by walk_at "i1"
theorem aAj:cH "include" "Gives.include" vK pU:=by walk_at "i2"
theorem aKp:cH "__init__" "Size.__init__" NZ yV:=by walk_at "i4"
theorem M5:cH "__init__" "GrowingColumn.__init__" o7 jX:=by walk_at "i1"
theorem DG:cH "include" "GrowingColumn.include" lO iU:=by walk_at "i2"
theorem qM:cH "size_by_last_line" "GrowingColumn.size_by_last_line" gB dO:=by walk_at "i2"
theorem QZ:cH "__init__" "FittedColumn.__init__" oZ lF:=by walk_at "i1"
theorem HD:cH "include" "FittedColumn.include" m5 j5:=by walk_at "i2"
theorem KJ:cH "fit_to" "FittedColumn.fit_to" nG jL:=by walk_at "i3"
theorem aNs:cH "__init__" "Cut.__init__" J7 J8:=by walk_at "i5"
theorem aEu:cH "__init__" "Packed.__init__" BZ uM:=by walk_at "i6"
theorem aEv:cH "__init__" "Reader.__init__" uN pJ:=by walk_at "i2"
theorem aBs:cH "ended" "Reader.ended" rP gG:=by walk_at "i1"
theorem aEw:cH "take" "Reader.take" uO mW:=by walk_at "i1"
theorem W4:cH "take_row" "Reader.take_row" rR nW:=by walk_at "i1"
theorem aKq:cH "__init__" "Desk.__init__" zE zF:=by walk_at "i1"
theorem aNt:cH "put" "Desk.put" V5 JW:=by walk_at "i3"
theorem aKr:cH "told" "Desk.told" PB zG:=by walk_at "i2"
theorem aKs:cH "size" "Desk.size" PJ zH:=by walk_at "i3"
theorem aKt:cH "pack" "Desk.pack" PL zJ:=by walk_at "i7"
theorem aEx:cH "unpack" "Desk.unpack" CN uR:=by walk_at "i4"
theorem aKu:cH "join" "Desk.join" PN zK:=by walk_at "i3"
theorem aGd:cH "shift" "Desk.shift" JZ wL:=by walk_at "i4"
theorem aNu:cH "fit" "Desk.fit" V6 K4:=by walk_at "i5"
theorem aEy:cH "places" "Desk.places" CQ uT:=by walk_at "i5"
theorem aNv:cH "cut" "Desk.cut" V7 K5:=by walk_at "i7"
theorem aKv:cH "move" "Desk.move" Q0 zL:=by walk_at "i3"
theorem aKw:cH "keep" "Desk.keep" Q5 zM:=by walk_at "i3"
theorem YZ:cH "keep_both" "Desk.keep_both" tR oW:=by walk_at "i5"
theorem aEz:cH "box_at" "Desk.box_at" CT uU:=by walk_at "i3"
theorem aKx:cH "__init__" "Call.__init__" zN zO:=by walk_at "i2"
theorem aKy:cH "sum_gives" "sum_gives" NK yR:=by walk_at "i1"
theorem aF0:cH "first_order" "first_order" zX uG:=by walk_at "i1"
theorem aKz:cH "how_badly" "how_badly" NQ yS:=by walk_at "i2"
theorem aL0:cH "stretched" "stretched" NT yU:=by walk_at "i2"
theorem aTk:cH "shrunk" "shrunk" aD3 WX:=by walk_at "i2"
theorem aNw:cH "set_glue" "set_glue" UL J1:=by walk_at "i2"
theorem W5:cH "more_by_setting" "more_by_setting" rB nR:=by walk_at "i2"
theorem aL1:cH "side_size" "side_size" O1 yW:=by walk_at "i1"
theorem aF1:cH "size_in_row" "size_in_row" zY j8:=by walk_at "i1"
theorem aNx:cH "row_size" "row_size" UW qC:=by walk_at "i1"
theorem Z0:cH "is_box_or_rule" "is_box_or_rule" tK oK:=by walk_at "i1"
theorem aNy:cH "is_space" "is_space" V0 J2:=by walk_at "i1"
theorem W6:cH "width_in_column" "width_in_column" rD iT:=by walk_at "i1"
theorem SN:cH "length_in_column" "length_in_column" qD lZ:=by walk_at "i1"
theorem aF2:cH "column_size" "column_size" BJ uH:=by walk_at "i2"
theorem aF3:cH "size_by_top" "size_by_top" BK uI:=by walk_at "i2"
theorem aGe:cH "fit_column" "fit_column" J4 wD:=by walk_at "i3"
theorem aGf:cH "penalty_at" "penalty_at" J5 wF:=by walk_at "i2"
theorem aGg:cH "break_cost" "break_cost" J6 wG:=by walk_at "i2"
theorem aF4:cH "break_taken" "break_taken" BP uJ:=by walk_at "i3"
theorem W7:cH "without_dropped" "without_dropped" rF nU:=by walk_at "i1"
theorem aL2:cH "glue_less" "glue_less" O4 yX:=by walk_at "i2"
theorem SQ:cH "with_glue_at_top" "with_glue_at_top" qF m7:=by walk_at "i2"
theorem Z1:cH "what_moves_out" "what_moves_out" tL oM:=by walk_at "i1"
theorem aGh:cH "what_stays" "what_stays" wH wI:=by walk_at "i1"
theorem aBt:cH "first_copies" "first_copies" rH rJ:=by walk_at "i3"
theorem aPx:cH "in_step" "in_step" ZP RL:=by walk_at "i3"
theorem aPy:cH "centred" "centred" ZQ RM:=by walk_at "i3"
theorem aTl:cH "spread" "spread" aD6 X8:=by walk_at "i3"
theorem aF5:cH "copy_places" "copy_places" BW uK:=by walk_at "i4"
theorem Z2:cH "size_by_itself" "size_by_itself" tO oN:=by walk_at "i3"
theorem KN:cH "more_than_by_itself" "more_than_by_itself" nH jM:=by walk_at "i4"
theorem aF6:cH "packed_size" "packed_size" BX uL:=by walk_at "i4"
theorem aNz:cH "make_box" "make_box" JB JC:=by walk_at "i4"
theorem aBu:cH "what_is_said" "what_is_said" xQ rK:=by walk_at "i2"
theorem aBv:cH "length_along" "length_along" xR rN:=by walk_at "i2"
theorem aO0:cH "stations" "stations" V3 JD:=by walk_at "i1"
theorem aGi:cH "box_leaves" "box_leaves" JF jZ:=by walk_at "i3"
theorem aGj:cH "row_leaves" "row_leaves" JG rO:=by walk_at "i3"
theorem aAk:cH "column_leaves" "column_leaves" vM mQ:=by walk_at "i3"
theorem aAl:cH "leaves_in_row" "leaves_in_row" vN jQ:=by walk_at "i4"
theorem SX:cH "leaves_in_column" "leaves_in_column" qG gY:=by walk_at "i4"
theorem Z4:cH "leaders_in_row" "leaders_in_row" tQ lR:=by walk_at "i6"
theorem R0:cH "leaders_in_column" "leaders_in_column" pA j4:=by walk_at "i6"
theorem aPz:cH "side_or" "side_or" ZW RN:=by walk_at "i2"
theorem aL3:cH "rule_leaf" "rule_leaf" O7 yZ:=by walk_at "i3"
theorem aGk:cH "named_leaf" "named_leaf" JH wJ:=by walk_at "i3"
theorem aO1:cH "in_range" "in_range" JK xT:=by walk_at "i2"
theorem aL4:cH "read_list" "read_list" O8 z8:=by walk_at "i1"
theorem aF7:cH "read_things" "read_things" CG kO:=by walk_at "i2"
theorem aGl:cH "read_thing" "read_thing" gH oR:=by walk_at "i2"
theorem aGm:cH "read_field" "read_field" JM rT:=by walk_at "i3"
theorem aF8:cH "read_number" "read_number" CJ uP:=by walk_at "i2"
theorem aL5:cH "read_side" "read_side" OD z9:=by walk_at "i1"
theorem aAm:cH "read_repeated" "read_repeated" vO jR:=by walk_at "i2"
theorem aL6:cH "read_glue" "read_glue" j9 zA:=by walk_at "i1"
theorem aAn:cH "holds_leaders" "holds_leaders" vP jT:=by walk_at "i1"
theorem aL7:cH "tell_list" "tell_list" OJ o8:=by walk_at "i1"
theorem aGn:cH "tell_thing" "tell_thing" JQ m8:=by walk_at "i1"
theorem aGo:cH "tell_field" "tell_field" JR rY:=by walk_at "i2"
theorem aGp:cH "check_kept" "check_kept" JT wK:=by walk_at "i1"
theorem aBw:cH "check_choice" "check_choice" xV rZ:=by walk_at "i2"
theorem aBx:cH "check_length" "check_length" xX sE:=by walk_at "i1"
theorem aF9:cH "check_other" "check_other" CK uQ:=by walk_at "i2"
theorem aL8:cH "glue_told" "glue_told" P0 zB:=by walk_at "i1"
theorem aQ0:cH "perform" "perform" aA0 RP:=by walk_at "i2"
theorem aTm:cH "answer" "answer" aDi XR:=by walk_at "i2"
theorem aFa:cH "answers" "answers" aA1 RQ:=by walk_at "i1"
end Pr
end
section
namespace Pr
open PySem PySem.Spec PyProof.Rows L2
open PySem.W (Codec)
theorem row_F {P:Program}{w:World}{K:PySem.W.Frag}{mg:Str->Option Value}{fa:Addr}(hmg:mg "answers"=some (.ref fa))(h: ∃M:Md w K mg,YW K M.Y9/\[M.cY,M.bY,M.o9,M.jG].Nodup):
  ∃fd:FuncData,(∀(s:Shared)(us:List Value),us.length=(["calls"]:List Str).length->BindsTo s fd ⟨us,[]⟩ ((["calls"]:List Str).zip us))/\ ∀base:Heap,bJ P w K mg base (CXE P w) 58 fa fd ["calls"] (pAnswers K):=by
 obtain⟨M,hC,hx⟩:=h
 have e:=hmg.symm.trans M.answers.m
 cases e
 refine⟨M.answers.fd,fun s us hu=>?_,fun base=>aPv M hC hx⟩
 obtain⟨oc,od,kV,doc,pm,an,cdv,ct,osl,e,_,_⟩:=M.answers.F.ex
 rw[e]
 exact .of_eq (aFa kV doc pm an cdv ct us hu)
theorem row_S (K:PySem.W.Frag)(H:Hp)(xs:List V)(a:Codec.denoteAll PySem.Challenge.rw_setpress_s01_answers.args)(hwi:Codec.withinAll PySem.Challenge.rw_setpress_s01_answers.args a=true)(hask:Codec.app PySem.Challenge.rw_setpress_s01_answers.args PySem.Challenge.rw_setpress_s01_answers.asked a=true)(hx:DW K H xs (Codec.encAll PySem.Challenge.rw_setpress_s01_answers.args a)):
  pAnswers K xs H (fun v H'=>Dw K H' v (PySem.Challenge.rw_setpress_s01_answers.ret.enc (Codec.app PySem.Challenge.rw_setpress_s01_answers.args PySem.Challenge.rw_setpress_s01_answers.f a))) fun _ _ _=>False:=by
 cases hx with
 |cons h1 h2=>
  cases h2
  cases h1 with
  |lst hs ha=>
   have e:=L2.aQl a.1 _ ha
   subst e
   have q:((Codec.inLen 0 3000 a.1&&a.1.all (Codec.inInt (Int.negSucc 9223372036854775807) (Int.ofNat 9223372036854775807)))&&true)=true:=hwi
   rw[Bool.and_eq_true,Bool.and_eq_true] at q
   exact⟨_,a.1,rfl,hs,Nat.le_trans (Codec.inNat_iff.mp q.1.1).2 (by decide),hask,fun H' p hp=> .lst (L2.SqL.of hp) (L2.aQk _)⟩
theorem walk_specE {r:PySem.W.OpenSpec}{k:Nat}{q:Program}{loose:List Str}{XP:(Str->Option Value)->Heap->Prop}{YP:World->Heap->Prop}{d:DefRec}{K:Params->PySem.W.Frag}{ps:List Str}{sp:PySem.W.Frag->Sp}
  (hwell:r.wellSaid=true) (hdf:d.params.defaults=[]) (hlen:r.args.length=ps.length) (hr:sV k callerA)
  (hY: ∀(w:World)(h:Heap),YP w h->(K w.params).In h)
  (F: ∀(w:World)(mg:Str->Option Value)(fa:Addr)(h:Heap),(K w.params).In h->h.Ns mainGlobals mg->mg d.name=some (.ref fa)->
   ∃fd:FuncData,(∀(s:Shared)(us:List Value),us.length=ps.length->BindsTo s fd ⟨us,[]⟩ (ps.zip us))/\ ∀base:Heap,bJ r.prog w (K w.params) mg base (CXE r.prog w) k fa fd ps (sp (K w.params)))
  (hsp: ∀(K:PySem.W.Frag)(H:Hp)(xs:List V)(a:Codec.denoteAll r.args),Codec.withinAll r.args a=true->Codec.app r.args r.asked a=true->DW K H xs (Codec.encAll r.args a)->
   sp K xs H (fun v H'=>Dw K H' v (r.ret.enc (Codec.app r.args r.f a))) fun _ _ _=>False):
  PySem.W.WalkOS q loose XP YP r d [] (fun f vs=>PySem.call f vs):=
 aSa (K:=K) (CX:=fun w=>CXE r.prog w) (sp:=fun w=>sp (K w.params)) hwell hdf hlen hr hY
  (fun w mg fa h Y KX G hmg=>let ⟨fd,h1,h2⟩:=F w mg fa h KX G hmg;⟨fd,h1,fun base _ _=>h2 base⟩)
  (fun w H xs a _ h2 h3 h4=>hsp (K w.params) H xs a h2 h3 h4) fun _ H s e s'⟨_,_,_,_,_,_,_,_,_,_,z⟩=>z
end Pr
end
open PySem PySem.W PyProof.Rows
set_option maxRecDepth 100000 in
set_option maxHeartbeats 0 in
open Pr L2 in
theorem PySem.Challenge.cw_setpress_s01_answers_holds : PySem.Challenge.rw_setpress_s01_answers.Holds := by
  w_on; have := Pr.k1; k_headS; (case hw => exact ⟨[.list [.int 1, .int 0]], by decide +kernel, by decide +kernel⟩)
  k_fillS
  refine Pr.walk_specE (r := PySem.Challenge.rw_setpress_s01_answers) (k := 58) (ps := ["calls"]) (sp := Pr.pAnswers) Pr.k1 rfl rfl ⟨rfl, by decide, by decide⟩ (fun w h Y => PySem.W.kIn_of Y) ?F Pr.row_S
  intro w mg fa h KX G hmg
  refine Pr.row_F hmg ⟨{sI := PySem.W.mg_none_of KX G ?_, aMn := PySem.W.mg_none_of KX G ?_, aQv := PySem.W.mg_none_of KX G ?_, aZg := PySem.W.mg_none_of KX G ?_, aP5 := PySem.W.mg_none_of KX G ?_, RT := PySem.W.mg_none_of KX G ?_, Q9 := PySem.W.mg_none_of KX G ?_, aC4 := oY KX G ?_, aDk := oY KX G ?_, aDl := oY KX G ?_, KZ := oY KX G ?_, aH6 := oY KX G ?_, aH7 := oY KX G ?_, T7 := oY KX G ?_, aAx := oY KX G ?_, aDm := oY KX G ?_, T8 := oY KX G ?_, aAy := oY KX G ?_, aH8 := oY KX G ?_, aQw := oY KX G ?_, aQx := oY KX G ?_, aDn := oY KX G ?_, Y7 := oY KX G ?_, aAz := oY KX G ?_, T9 := oY KX G ?_, aH9 := oY KX G ?_, xZ := oY KX G ?_, j6 := oY KX G ?_, w6 := oY KX G ?_, Y8 := _, aJj := PySem.W.mg_of KX G (uD ?_), aQy := wQ ?_, FW := _, aA4 := PySem.W.mg_of KX G (uD ?_), aA5 := wQ ?_, FZ := _, aA6 := PySem.W.mg_of KX G (uD ?_), aA7 := wQ ?_, QC := _, aDo := PySem.W.mg_of KX G (uD ?_), aDp := wQ ?_, zP := _, aC5 := PySem.W.mg_of KX G (uD ?_), aQz := wQ ?_, aR0 := bEk ?_, aDq := _, aV1 := PySem.W.mg_of KX G (uD ?_), aJk := _, YB := PySem.W.mg_of KX G (uD ?_), Y9 := _, aR1 := PySem.W.mg_of KX G (uD ?_), tb := ⟨PySem.W.mg_of KX G (uD ?_), aYx ?_ ?_ ?_, PySem.W.mg_of KX G (uD ?_), aYy ?_ ?_ ?_, PySem.W.mg_of KX G (uD ?_), wQ ?_⟩, cY := _, kW := aRp KX G ?_, bY := _, dG := aRp KX G ?_, o9 := _, yC := aRp KX G ?_, jG := _, wU := aRp KX G ?_, qU := CZ KX G ?_, VB := ?_, aA8 := ?_, VD := ?_, sJ := ?_, vD := ?_, fZ := aGb (x := "Fit") ?_ ?_ ?_ aNr, fL := CZ KX G ?_, lU := ?_, oA := ?_, kY := aGb (x := "Gives") ?_ ?_ ?_ aGc, gC := yK ?_ ?_ aAj, dM := CZ KX G ?_, iK := ?_, fU := ?_, kE := ?_, cC := aGb (x := "Size") ?_ ?_ ?_ aKp, bI := CZ KX G ?_, kI := ?_, jN := ?_, gR := ?_, eF := aGb (x := "GrowingColumn") ?_ ?_ ?_ M5, d8 := yK ?_ ?_ DG, cA := yK ?_ ?_ qM, cD := CZ KX G ?_, kJ := ?_, lG := ?_, fC := aGb (x := "FittedColumn") ?_ ?_ ?_ QZ, dH := yK ?_ ?_ HD, dU := yK ?_ ?_ KJ, YC := CZ KX G ?_, K6 := ?_, vQ := ?_, aA9 := ?_, G4 := aGb (x := "Cut") ?_ ?_ ?_ aNs, zQ := CZ KX G ?_, QD := ?_, K7 := ?_, qN := aGb (x := "Packed") ?_ ?_ ?_ aEu, bL := CZ KX G ?_, pX := ?_, uV := ?_, jA := aGb (x := "Reader") ?_ ?_ ?_ aEv, cG := yK ?_ ?_ aBs, cP := yK ?_ ?_ aEw, jU := yK ?_ ?_ W4, cF := CZ KX G ?_, eG := ?_, wV := aGb (x := "Desk") ?_ ?_ ?_ aKq, G8 := yK ?_ ?_ aNt, wW := yK ?_ ?_ aKr, wX := yK ?_ ?_ aKs, wY := yK ?_ ?_ aKt, qO := yK ?_ ?_ aEx, wZ := yK ?_ ?_ aKu, tU := yK ?_ ?_ aGd, G9 := yK ?_ ?_ aNu, qP := yK ?_ ?_ aEy, GJ := yK ?_ ?_ aNv, xG := yK ?_ ?_ aKv, mY := yK ?_ ?_ aKw, iM := yK ?_ ?_ YZ, jB := yK ?_ ?_ aEz, yD := CZ KX G ?_, VF := ?_, QF := ?_, VG := ?_, xH := aGb (x := "Call") ?_ ?_ ?_ aKx, tV := eY KX G ?_ ?_ aKy, jC := eY KX G ?_ ?_ aF0, mZ := eY KX G ?_ ?_ aKz, stretched := eY KX G ?_ ?_ aL0, shrunk := eY KX G ?_ ?_ aTk, pL := eY KX G ?_ ?_ aNw, iY := eY KX G ?_ ?_ W5, bT := eY KX G ?_ ?_ aL1, cQ := eY KX G ?_ ?_ aF1, gJ := eY KX G ?_ ?_ aNx, cO := eY KX G ?_ ?_ Z0, pN := eY KX G ?_ ?_ aNy, cB := eY KX G ?_ ?_ W6, cR := eY KX G ?_ ?_ SN, jD := eY KX G ?_ ?_ aF2, oE := eY KX G ?_ ?_ aF3, qI := eY KX G ?_ ?_ aGe, kZ := eY KX G ?_ ?_ aGf, qJ := eY KX G ?_ ?_ aGg, oF := eY KX G ?_ ?_ aF4, iZ := eY KX G ?_ ?_ W7, tW := eY KX G ?_ ?_ aL2, iB := eY KX G ?_ ?_ SQ, jH := eY KX G ?_ ?_ Z1, qK := eY KX G ?_ ?_ aGh, eO := eY KX G ?_ ?_ aBt, K8 := eY KX G ?_ ?_ aPx, centred := eY KX G ?_ ?_ aPy, spread := eY KX G ?_ ?_ aTl, jE := eY KX G ?_ ?_ aF5, jJ := eY KX G ?_ ?_ Z2, eZ := eY KX G ?_ ?_ KN, oG := eY KX G ?_ ?_ aF6, yE := eY KX G ?_ ?_ aNz, m9 := eY KX G ?_ ?_ aBu, mC := eY KX G ?_ ?_ aBv, pO := eY KX G ?_ ?_ aO0, cZ := eY KX G ?_ ?_ aGi, mD := eY KX G ?_ ?_ aGj, iG := eY KX G ?_ ?_ aAk, dB := eY KX G ?_ ?_ aAl, cM := eY KX G ?_ ?_ SX, gK := eY KX G ?_ ?_ Z4, dY := eY KX G ?_ ?_ R0, gU := eY KX G ?_ ?_ aPz, gO := eY KX G ?_ ?_ aL3, lB := eY KX G ?_ ?_ aGk, pP := eY KX G ?_ ?_ aO1, n8 := eY KX G ?_ ?_ aL4, dW := eY KX G ?_ ?_ aF7, gM := eY KX G ?_ ?_ aGl, mG := eY KX G ?_ ?_ aGm, g8 := eY KX G ?_ ?_ aF8, tX := eY KX G ?_ ?_ aL5, fM := eY KX G ?_ ?_ aAm, tY := eY KX G ?_ ?_ aL6, dD := eY KX G ?_ ?_ aAn, eU := eY KX G ?_ ?_ aL7, fB := eY KX G ?_ ?_ aGn, mH := eY KX G ?_ ?_ aGo, lC := eY KX G ?_ ?_ aGp, aO := eY KX G ?_ ?_ aBw, bN := eY KX G ?_ ?_ aBx, jF := eY KX G ?_ ?_ aF9, tZ := eY KX G ?_ ?_ aL8, perform := eY KX G ?_ ?_ aQ0, answer := eY KX G ?_ ?_ aTm, answers := eY KX G ?_ ?_ aFa}, Pr.aYz ?_, of_decide_eq_true ?_⟩
  all_goals (try unfold cW)
  all_goals kernel_rfl
