import Derived.Test.YthjhakdpikdoeaaGreatDoorKY3
import Derived.Test.YthjhakdpikdoeaaGreatDoorWD
import Derived.Test.YthjhakdpikdoeaaGreatDoorRows
import Derived.Lib.LaidU8
import Derived.MakeChecks
import Derived.OpenShut
import Derived.Deep.Strs
import Derived.Test.YthjhakdpikdoeaaGreatDoorZ43
set_option linter.unusedVariables false
set_option maxHeartbeats 8000000
set_option maxRecDepth 100000
namespace Go.Proofs.YthjhakdpikdoeaaGreatDoor
@[go_sem] abbrev lgL (x:M.G16) (b:Option Addr) (n:Nat):List Value:=[.int .i64 x.kd,.int .i64 x.to,.int .i64 x.fr,.int .i64 x.ep,.int .i64 x.ed,.string x.km.nm,.string x.km.tl,.string x.km.ar,.slice b x.ls.length n,.int .i64 x.ct,.bool x.tn.over,.int .i64 x.tn.cd,.string x.tn.tx,.bool x.tn.has,.string x.tn.nm,.int .i64 x.tn.st]
@[go_sem] abbrev lgA (x:M.G16) (b:Option Addr) (n:Nat):Array Value:=#[.int .i64 x.kd,.int .i64 x.to,.int .i64 x.fr,.int .i64 x.ep,.int .i64 x.ed,.string x.km.nm,.string x.km.tl,.string x.km.ar,.slice b x.ls.length n,.int .i64 x.ct,.bool x.tn.over,.int .i64 x.tn.cd,.string x.tn.tx,.bool x.tn.has,.string x.tn.nm,.int .i64 x.tn.st]
@[go_sem] abbrev ljL (q:Int) (x:M.G16) (b:Option Addr) (n:Nat):List Value:=[.int .i64 q,.int .i64 x.to,.int .i64 x.fr,.int .i64 x.ep,.int .i64 x.ed,.string x.km.nm,.string x.km.tl,.string x.km.ar,.slice b x.ls.length n,.int .i64 x.ct,.bool x.tn.over,.int .i64 x.tn.cd,.string x.tn.tx,.bool x.tn.has,.string x.tn.nm,.int .i64 x.tn.st]
@[go_sem] abbrev ljA (q:Int) (x:M.G16) (b:Option Addr) (n:Nat):Array Value:=#[.int .i64 q,.int .i64 x.to,.int .i64 x.fr,.int .i64 x.ep,.int .i64 x.ed,.string x.km.nm,.string x.km.tl,.string x.km.ar,.slice b x.ls.length n,.int .i64 x.ct,.bool x.tn.over,.int .i64 x.tn.cd,.string x.tn.tx,.bool x.tn.has,.string x.tn.nm,.int .i64 x.tn.st]
@[go_sem] abbrev lzL:List Value:=[.int .i64 0,.int .i64 0,.int .i64 0,.int .i64 0,.int .i64 0,.string ⟨#[]⟩,.string ⟨#[]⟩,.string ⟨#[]⟩,.slice none 0 0,.int .i64 0,.bool false,.int .i64 0,.string ⟨#[]⟩,.bool false,.string ⟨#[]⟩,.int .i64 0]
@[go_sem] abbrev lzA:Array Value:=#[.int .i64 0,.int .i64 0,.int .i64 0,.int .i64 0,.int .i64 0,.string ⟨#[]⟩,.string ⟨#[]⟩,.string ⟨#[]⟩,.slice none 0 0,.int .i64 0,.bool false,.int .i64 0,.string ⟨#[]⟩,.bool false,.string ⟨#[]⟩,.int .i64 0]
@[go_sem] abbrev lhL (i:Int) (u h:Bool) (x:M.G16) (b:Option Addr) (n:Nat):List Value:=[.int .i64 i,.bool u,.bool h,.int .i64 x.kd,.int .i64 x.to,.int .i64 x.fr,.int .i64 x.ep,.int .i64 x.ed,.string x.km.nm,.string x.km.tl,.string x.km.ar,.slice b x.ls.length n,.int .i64 x.ct,.bool x.tn.over,.int .i64 x.tn.cd,.string x.tn.tx,.bool x.tn.has,.string x.tn.nm,.int .i64 x.tn.st]
@[go_sem] abbrev lhA (i:Int) (u h:Bool) (x:M.G16) (b:Option Addr) (n:Nat):Array Value:=#[.int .i64 i,.bool u,.bool h,.int .i64 x.kd,.int .i64 x.to,.int .i64 x.fr,.int .i64 x.ep,.int .i64 x.ed,.string x.km.nm,.string x.km.tl,.string x.km.ar,.slice b x.ls.length n,.int .i64 x.ct,.bool x.tn.over,.int .i64 x.tn.cd,.string x.tn.tx,.bool x.tn.has,.string x.tn.nm,.int .i64 x.tn.st]
@[go_sem] abbrev lkL (i:Int) (u h:Bool):List Value:=[.int .i64 i,.bool u,.bool h,.int .i64 0,.int .i64 0,.int .i64 0,.int .i64 0,.int .i64 0,.string ⟨#[]⟩,.string ⟨#[]⟩,.string ⟨#[]⟩,.slice none 0 0,.int .i64 0,.bool false,.int .i64 0,.string ⟨#[]⟩,.bool false,.string ⟨#[]⟩,.int .i64 0]
@[go_sem] abbrev lkA (i:Int) (u h:Bool):Array Value:=#[.int .i64 i,.bool u,.bool h,.int .i64 0,.int .i64 0,.int .i64 0,.int .i64 0,.int .i64 0,.string ⟨#[]⟩,.string ⟨#[]⟩,.string ⟨#[]⟩,.slice none 0 0,.int .i64 0,.bool false,.int .i64 0,.string ⟨#[]⟩,.bool false,.string ⟨#[]⟩,.int .i64 0]
@[go_sem] abbrev luL (x:M.W19):List Value:=[.int .i64 x.no,.bool x.up,.bool x.has,.int .i64 x.of.kd,.int .i64 x.of.to,.int .i64 x.of.fr,.int .i64 x.of.ep,.int .i64 x.of.ed,.string x.of.km.nm,.string x.of.km.tl,.string x.of.km.ar,.slice none 0 0,.int .i64 x.of.ct,.bool x.of.tn.over,.int .i64 x.of.tn.cd,.string x.of.tn.tx,.bool x.of.tn.has,.string x.of.tn.nm,.int .i64 x.of.tn.st]
@[go_sem] abbrev luA (x:M.W19):Array Value:=#[.int .i64 x.no,.bool x.up,.bool x.has,.int .i64 x.of.kd,.int .i64 x.of.to,.int .i64 x.of.fr,.int .i64 x.of.ep,.int .i64 x.of.ed,.string x.of.km.nm,.string x.of.km.tl,.string x.of.km.ar,.slice none 0 0,.int .i64 x.of.ct,.bool x.of.tn.over,.int .i64 x.of.tn.cd,.string x.of.tn.tx,.bool x.of.tn.has,.string x.of.tn.nm,.int .i64 x.of.tn.st]
@[go_sem] abbrev lsL (i:Int) (u h:Bool) (x:M.G16) (b:Option Addr) (n:Nat) (y:M.G16) (c:Option Addr) (k:Nat) (v:Value):List Value:=[.int .i64 i,.bool u,.bool h,.int .i64 x.kd,.int .i64 x.to,.int .i64 x.fr,.int .i64 x.ep,.int .i64 x.ed,.string x.km.nm,.string x.km.tl,.string x.km.ar,.slice b x.ls.length n,.int .i64 x.ct,.bool x.tn.over,.int .i64 x.tn.cd,.string x.tn.tx,.bool x.tn.has,.string x.tn.nm,.int .i64 x.tn.st,.int .i64 y.kd,.int .i64 y.to,.int .i64 y.fr,.int .i64 y.ep,.int .i64 y.ed,.string y.km.nm,.string y.km.tl,.string y.km.ar,.slice c y.ls.length k,.int .i64 y.ct,.bool y.tn.over,.int .i64 y.tn.cd,.string y.tn.tx,.bool y.tn.has,.string y.tn.nm,.int .i64 y.tn.st,v]
@[go_sem] abbrev lsA (i:Int) (u h:Bool) (x:M.G16) (b:Option Addr) (n:Nat) (y:M.G16) (c:Option Addr) (k:Nat) (v:Value):Array Value:=#[.int .i64 i,.bool u,.bool h,.int .i64 x.kd,.int .i64 x.to,.int .i64 x.fr,.int .i64 x.ep,.int .i64 x.ed,.string x.km.nm,.string x.km.tl,.string x.km.ar,.slice b x.ls.length n,.int .i64 x.ct,.bool x.tn.over,.int .i64 x.tn.cd,.string x.tn.tx,.bool x.tn.has,.string x.tn.nm,.int .i64 x.tn.st,.int .i64 y.kd,.int .i64 y.to,.int .i64 y.fr,.int .i64 y.ep,.int .i64 y.ed,.string y.km.nm,.string y.km.tl,.string y.km.ar,.slice c y.ls.length k,.int .i64 y.ct,.bool y.tn.over,.int .i64 y.tn.cd,.string y.tn.tx,.bool y.tn.has,.string y.tn.nm,.int .i64 y.tn.st,v]
@[go_sem] abbrev lpL (i:Int) (u h:Bool) (x:M.G16) (b:Option Addr) (n:Nat) (v:Value):List Value:=[.int .i64 i,.bool u,.bool h,.int .i64 x.kd,.int .i64 x.to,.int .i64 x.fr,.int .i64 x.ep,.int .i64 x.ed,.string x.km.nm,.string x.km.tl,.string x.km.ar,.slice b x.ls.length n,.int .i64 x.ct,.bool x.tn.over,.int .i64 x.tn.cd,.string x.tn.tx,.bool x.tn.has,.string x.tn.nm,.int .i64 x.tn.st,.int .i64 0,.int .i64 0,.int .i64 0,.int .i64 0,.int .i64 0,.string ⟨#[]⟩,.string ⟨#[]⟩,.string ⟨#[]⟩,.slice none 0 0,.int .i64 0,.bool false,.int .i64 0,.string ⟨#[]⟩,.bool false,.string ⟨#[]⟩,.int .i64 0,v]
@[go_sem] abbrev lpA (i:Int) (u h:Bool) (x:M.G16) (b:Option Addr) (n:Nat) (v:Value):Array Value:=#[.int .i64 i,.bool u,.bool h,.int .i64 x.kd,.int .i64 x.to,.int .i64 x.fr,.int .i64 x.ep,.int .i64 x.ed,.string x.km.nm,.string x.km.tl,.string x.km.ar,.slice b x.ls.length n,.int .i64 x.ct,.bool x.tn.over,.int .i64 x.tn.cd,.string x.tn.tx,.bool x.tn.has,.string x.tn.nm,.int .i64 x.tn.st,.int .i64 0,.int .i64 0,.int .i64 0,.int .i64 0,.int .i64 0,.string ⟨#[]⟩,.string ⟨#[]⟩,.string ⟨#[]⟩,.slice none 0 0,.int .i64 0,.bool false,.int .i64 0,.string ⟨#[]⟩,.bool false,.string ⟨#[]⟩,.int .i64 0,v]
@[go_sem] abbrev lqL (i:Int) (u h:Bool) (v:Value):List Value:=[.int .i64 i,.bool u,.bool h,.int .i64 0,.int .i64 0,.int .i64 0,.int .i64 0,.int .i64 0,.string ⟨#[]⟩,.string ⟨#[]⟩,.string ⟨#[]⟩,.slice none 0 0,.int .i64 0,.bool false,.int .i64 0,.string ⟨#[]⟩,.bool false,.string ⟨#[]⟩,.int .i64 0,.int .i64 0,.int .i64 0,.int .i64 0,.int .i64 0,.int .i64 0,.string ⟨#[]⟩,.string ⟨#[]⟩,.string ⟨#[]⟩,.slice none 0 0,.int .i64 0,.bool false,.int .i64 0,.string ⟨#[]⟩,.bool false,.string ⟨#[]⟩,.int .i64 0,v]
@[go_sem] abbrev lqA (i:Int) (u h:Bool) (v:Value):Array Value:=#[.int .i64 i,.bool u,.bool h,.int .i64 0,.int .i64 0,.int .i64 0,.int .i64 0,.int .i64 0,.string ⟨#[]⟩,.string ⟨#[]⟩,.string ⟨#[]⟩,.slice none 0 0,.int .i64 0,.bool false,.int .i64 0,.string ⟨#[]⟩,.bool false,.string ⟨#[]⟩,.int .i64 0,.int .i64 0,.int .i64 0,.int .i64 0,.int .i64 0,.int .i64 0,.string ⟨#[]⟩,.string ⟨#[]⟩,.string ⟨#[]⟩,.slice none 0 0,.int .i64 0,.bool false,.int .i64 0,.string ⟨#[]⟩,.bool false,.string ⟨#[]⟩,.int .i64 0,v]
@[go_sem] abbrev loL (i:Int):List Value:=[.int .i64 3,.int .i64 0,.int .i64 i,.int .i64 0,.int .i64 0,.string ⟨#[]⟩,.string ⟨#[]⟩,.string ⟨#[]⟩,.slice none 0 0,.int .i64 0,.bool false,.int .i64 0,.string ⟨#[]⟩,.bool false,.string ⟨#[]⟩,.int .i64 0]
@[go_sem] abbrev loA (i:Int):Array Value:=#[.int .i64 3,.int .i64 0,.int .i64 i,.int .i64 0,.int .i64 0,.string ⟨#[]⟩,.string ⟨#[]⟩,.string ⟨#[]⟩,.slice none 0 0,.int .i64 0,.bool false,.int .i64 0,.string ⟨#[]⟩,.bool false,.string ⟨#[]⟩,.int .i64 0]
open Proofs.Tryz
open Go.RowKit
open G.T (F2 f2z FilesAt files_some)
def fiC (fs:List F2):List Value:=fs.flatMap fun x=>[.string x.nm,.string x.tx]
theorem hdI {p:Prop} (h:p):Hid p:=h
theorem fiC_snoc (fs:List F2) (x:F2):fiC (fs++[x])=fiC fs++[.string x.nm,.string x.tx]:=by simp [fiC]
theorem inf123:Inf prog 123 2:=inf_of kr_
theorem cl_at {w:World} {B:Nat} {xs:List Value} {t:TypeId} (h:B=w.heap.size):Cl (w.alloc (.cells xs.toArray t)) B t xs:=h▸cl_new w xs t
theorem row_sl {w:World} {base:Nat} {e:TypeId} {size n:Nat} {v:Value} {xs:List Value} (h:w.ownsRow base e size v n xs):∃ a c,v=.slice a n c:=by
 rcases h.2 with ⟨rfl,rfl⟩ | ⟨g,cap,cur,rfl,_⟩
 · exact ⟨_,_,rfl⟩
 exact ⟨_,_,rfl⟩
theorem gr_bW {B:Nat} {w u u':World} {v:Value} (h:Below B w u) (g:u.grownBy u' v.ownBlock) (hz:B<=u.heap.size) (hv:∀ k,v.ownBlock=some k->B<=k):Below B w u':=
 ⟨g.os.trans h.os,g.tape.trans h.tape,g.output.trans h.output,Nat.le_trans h.size g.size,fun k hk=>(g.block k om_ (fun e=>by have:=hv k e.symm;omega)).trans (h.block k hk)⟩
structure W6 (w:World) (A v:Value) (gs:List F2) (u:World):Prop where
 b:Below w.heap.size w u
 h0:Cl u w.heap.size 51 [A]
 h1:Cl u (w.heap.size+1) 51 [.slice none 0 0]
 h2:Cl u (w.heap.size+1+1) 51 [v]
 ho:u.ownsRow (w.heap.size+3) 123 2 v gs.length (fiC gs)
theorem W6.below {w:World} {A v:Value} {gs:List F2} {u u':World} (h:W6 w A v gs u) (hb:Below u.heap.size u u'):W6 w A v gs u':=
 ⟨h.b.trans (hb.mono h.b.size),h.h0.below hb h.h0.lt,h.h1.below hb h.h1.lt,h.h2.below hb h.h2.lt,ownsRow_below h.ho hb⟩
theorem W6.app {w:World} {A v v':Value} {gs:List F2} {x:F2} {u u':World} (h:W6 w A v gs u) (hr:u'.ownsRow (w.heap.size+3) 123 2 v' (gs.length+1) (fiC gs++[.string x.nm,.string x.tx])) (hg:u.grownBy u' v.ownBlock):Below (w.heap.size+3) u u'/\W6 w A v' (gs++[x]) (u'.setCell ⟨w.heap.size+1+1,0,none⟩ v'):=by
 have k:∀ j,v.ownBlock=some j->w.heap.size+3<=j:=fun j e=>(h.ho.lt j e).1;have hB:=gr_bW (Below.refl (w.heap.size+3) u) hg h.h2.lt k;have c2:=h.h2.below hB om_;have hs:=(Below.refl (w.heap.size+1+1) u').setCell (p:=⟨w.heap.size+1+1,0,none⟩) lr_ v';have hB2:Below (w.heap.size+1+1) u _:=(hB.mono om_).trans hs;refine ⟨hB,h.b.trans (hB2.mono om_),h.h0.below hB2 om_,h.h1.below hB2 om_,c2.set 0 v',?_⟩;rw [List.length_append,fiC_snoc];exact own_stW hr om_
theorem c101 (a:Option Addr) (cap:Nat) (fs:List F2) (nm:ByteArray) (w:World) (hl:fs.length<=1000) (hat:FilesAt w a fs):
 Calls prog 101 #[.agg #[.slice a fs.length cap],.string nm] w fun e w'=>(∃ v gs,e=.returned (.agg #[v])/\w'.ownsRow w.heap.size 123 2 v gs.length (fiC gs)/\gs.length<=fs.length/\∀ x∈gs,x∈fs)/\Below w.heap.size w w':=by
 obtain ⟨b,off,hc⟩:=files_some hat;have HC:=hdI hc;clear hc hat;go_enter func101,ntmps101
 go_wp2_with fail
 go_loopw [6] (fun i wr=>∃ (k:Nat) (v:Value) (gs:List F2),i=.int .i64 k/\k<=fs.length/\gs.length<=k/\Hid (∀ x∈gs,x∈fs)/\Hid (W6 w (.slice a fs.length cap) v gs wr)) (fun i _=>fs.length - (intOf i).toNat)
 case atStart=>exact ⟨0,_,[],rfl,Nat.zero_le _,Nat.le_refl _,(fun x h=>nomatch h),⟨(bA.alloc sm_ _).alloc so_ _,cl_old (cl_old (cl_new w [_] 51) _) _,cl_old (cl_at (xs:=[_]) sm_) _,cl_at (xs:=[_]) sm_,World.ownsRow_nil _ _ _ _⟩⟩
 obtain ⟨k,v,gs,rfl,hk,hg,hsub,H⟩:=hrel;obtain ⟨va,vc,rfl⟩:=row_sl H.out.ho;have d0:=H.out.h0.cell 0;have d1:=H.out.h1.cell 0;have f1:=H.out.h1.opn 0;have d2:=H.out.h2.cell 0;dsimp only [List.getElem?_cons_zero] at d0 d1 d2;by_cases hlt:k<fs.length;rotate_left
 · go_wp2
   have er:=World.cell?_setCell_same wr ⟨w.heap.size+1,0,none⟩ (.slice va gs.length vc) d1;refine bodyPost_ret (v:=.agg #[.slice va gs.length vc]) (by simp [results,Tryz.results101,go_sem,er]) rfl ⟨⟨_,gs,rfl,owns_mono (own_stW H.out.ho om_) om_,om_,hsub.out⟩,H.out.b.setCell sm_ _⟩
 rcases HC.out with hss | ⟨ha,hbw,hcell⟩
 · rw [hss] at hlt;exact absurd hlt (Nat.not_lt_zero _)
 subst ha;have g0:=(H.out.b.cell (p:=⟨b,off+k*2,none⟩) hbw).trans (hcell k hlt).1;have g1:=(H.out.b.cell (p:=⟨b,off+k*2+1,none⟩) hbw).trans (hcell k hlt).2;have HM:Hid (fs.getD k f2z∈fs):=by simp [Hid,List.getD,hlt]
 generalize fs.getD k f2z=x at*;clear hcell HC;cases hne:(x.nm.toList==nm.toList);rotate_left
 · go_wp2
   go_roundw
   case rel=>exact ⟨k+1,_,gs,by go_num,om_,om_,hsub,H⟩
   case measure=>simp [intOf];omega
 go_wp2_with fail
 refine wp_region_L (S:=fun u=>u.cell? ⟨w.heap.size+1+1,0,none⟩=some (.slice va gs.length vc)/\u.cell? ⟨w.heap.size,0,none⟩=some (.slice (some ⟨b,off,none⟩) fs.length cap)/\u.cell? ⟨b,off+k*2,none⟩=some (.string x.nm)/\u.cell? ⟨b,off+k*2+1,none⟩=some (.string x.tx)) 10 kr_ ?_ fun hH=>?_
 · ((try dsimp only);go_keep)
 refine lq 0 hH ?_;refine lq 1 hH ?_;refine lq 2 hH ?_;refine lq 3 hH ?_;refine lq 4 hH ?_;refine lq 5 hH ?_
 try simp only [qq]
 refine lq 6 hH ?_
 try simp only [qq]
 refine lr (i:=7) (o:=⟨some 30,.buildSlice 49 1 #[(0,.tmp 29)],49,_,_,none⟩) rfl dc_ kr_ fun K hK=>?_;go_simp;obtain ⟨y,hy⟩:∃ y:World,y=(wr.alloc (.cells #[.string x.nm,.string x.tx] 123)).drew:=⟨_,rfl⟩;rw [<- hy];have hby:Below wr.heap.size wr y:=by rw [hy];exact bA.drew
 have HS:Hid (Cl y wr.heap.size 123 [.string x.nm,.string x.tx]):=by show Cl _ _ _ _;rw [hy];exact cl_new wr _ 123
 have HY:=hdI (H.out.below hby);have hbz:=H.out.b.size;have e0:=(hby.cell (p:=⟨b,off+k*2,none⟩) (by show b<_;omega)).trans g0;have e1:=(hby.cell (p:=⟨b,off+k*2+1,none⟩) (by show b<_;omega)).trans g1;clear hy hH;refine hK.out _ _ ?_ fun hH=>?_
 · exact ⟨HY.out.h2.cell 0,HY.out.h0.cell 0,e0,e1⟩
 clear hK K
 try simp only [qq]
 refine lr (i:=8) (o:=⟨some 31,.call ⟨.builtin .append,#[.tmp 24,.tmp 30],#[49,49]⟩,49,_,_,none⟩) rfl dc_ kr_ fun K hK=>?_;refine st_app rfl _ _ 49 rfl (w.heap.size+3) 123 2 underlying49 inf123 dc_ _ gs.length _ rfl HY.out.ho _ 1 [.string x.nm,.string x.tx] rfl (.inr ⟨⟨wr.heap.size,0,none⟩,1,rfl,rfl,cl_row HS.out⟩) (by simp [Value.oneCell']) om_ HY.out.h2.lt ?_;intro v' y2 O2 g2 _;obtain ⟨va',vc',rfl⟩:=row_sl O2;obtain ⟨hB,hZ⟩:=HY.out.app (x:=x) O2 g2;have c2:=HY.out.h2.below hB om_;have HZ:=hdI hZ;clear hZ O2 g2 hH;refine hK.out _ _ ?_ fun hH=>?_
 · exact ⟨c2.cell 0,(HY.out.h0.below hB om_).cell 0,(hB.cell (by show b<_;omega)).trans e0,(hB.cell (by show b<_;omega)).trans e1⟩
 clear hK K
 try simp only [qq]
 refine lq 9 hH ?_
 try simp only [qq]
 refine lz (o:=⟨none,.store 49 (.tmp 32) (.tmp 31),0,_,_,none⟩) rfl kr_ fun K hK=>?_;have z2:=c2.cell 0;have zf:=c2.opn 0;dsimp only [List.getElem?_cons_zero] at z2;go_simp;clear hH;refine hK.out _ _ ?_;clear hK K
 try simp only [qq]
 refine wpL_done kr_ ?_ _;go_wp2;go_roundw
 case rel=>exact ⟨k+1,_,gs++[x],by go_num,om_,so_,fun z hz=>by rcases List.mem_append.1 hz with h | h;exact hsub.out z h;exact List.mem_singleton.1 h▸HM.out,HZ⟩
 case measure=>simp [intOf];omega
end Go.Proofs.YthjhakdpikdoeaaGreatDoor
namespace Go.Proofs.YthjhakdpikdoeaaGreatDoor.M
open Proofs.Tryz
open Go.RowKit
theorem But.refl (b:Nat) (w:World):But b w w:=⟨rfl,rfl,rfl,Nat.le_refl _,fun _ _ _=>rfl⟩
theorem But.trans {b:Nat} {u v w:World} (h:But b u v) (k:But b v w):But b u w:=
 ⟨k.os.trans h.os,k.tape.trans h.tape,k.output.trans h.output,Nat.le_trans h.size k.size,fun i hi hne=>(k.block i (Nat.lt_of_lt_of_le hi h.size) hne).trans (h.block i hi hne)⟩
theorem But.of_below {b:Nat} {w w':World} (h:Below w.heap.size w w'):But b w w':=⟨h.os,h.tape,h.output,h.size,fun k hk _=>h.block k hk⟩
theorem But.below {b B:Nat} {w w':World} (h:But b w w') (hB:B<=b) (hz:B<=w.heap.size):Below B w w':=⟨h.os,h.tape,h.output,h.size,fun k hk=>h.block k om_ om_⟩
theorem But.setCell {b:Nat} {w w':World} (h:But b w w') (j:Nat) (v:Value):But b w (w'.setCell ⟨b,j,none⟩ v):=by
 have k:=(Below.refl b w').setCell (p:=⟨b,j,none⟩) lr_ v;refine ⟨k.os.trans h.os,k.tape.trans h.tape,k.output.trans h.output,Nat.le_trans h.size k.size,fun i hi hne=>?_⟩;rw [<- h.block i hi hne];exact Below.heap_setCell _ _ _ _ hne
theorem But.cell {b:Nat} {w w':World} (h:But b w w') {p:Addr} (hp:p.block<w.heap.size) (hne:p.block≠b):w'.cell? p=w.cell? p:=by
 unfold World.cell?;rw [h.block p.block hp hne]
def Open4 (w:World) (b n:Nat):Prop:=b<w.heap.size/\(∀ j,j<n*4->∃ v,w.cell? ⟨b,j,none⟩=some v)/\∀ j,w.frozen? ⟨b,j,none⟩=false
theorem Open4.below {w w':World} {b n:Nat} (h:Open4 w b n) (hb:Below w.heap.size w w'):Open4 w' b n:=
 ⟨Nat.lt_of_lt_of_le h.1 hb.size,fun j hj=>by rw [hb.cell (by exact h.1)];exact h.2.1 j hj,fun j=>by rw [hb.frozen (by exact h.1)];exact h.2.2 j⟩
theorem Open4.set {w:World} {b n j:Nat} {v:Value} (h:Open4 w b n) (hj:j<n*4):Open4 (w.setCell ⟨b,j,none⟩ v) b n:=by
 refine ⟨by simpa using h.1,fun i hi=>?_,fun i=>by have:=h.2.2 i;simpa using this⟩;by_cases e:i=j
 · subst e
   obtain ⟨x,hx⟩:=h.2.1 i hi;exact ⟨v,World.cell?_setCell_same _ _ _ hx⟩
 rw [World.cell?_setCell_other _ _ _ _ (adr_ne (Ne.symm e))];exact h.2.1 i hi
end Go.Proofs.YthjhakdpikdoeaaGreatDoor.M
namespace Go.Proofs.YthjhakdpikdoeaaGreatDoor.LT
open Proofs.Tryz
open Go.RowKit
variable {H α:Type} {W w:World} {base fuel i:Nat}
theorem gShapes:prog.globalNamed "loop.example/kiln/impl.shapes"=some 0:=kr_
theorem gShapesT:(prog.globals[0]?).map (·.type)=some 167:=kr_
theorem cells166:prog.cellsOf 166=3:=kr_
theorem cells9:prog.cellsOf 9=1:=kr_
theorem cells4:prog.cellsOf 4=1:=kr_
theorem list3 {l:List α} (h:l.length=3):∃ a b c,l=[a,b,c]:=by
 rcases l with _ | ⟨a,_ | ⟨b,_ | ⟨c,_ | ⟨d,l⟩⟩⟩⟩
 · cases h
 · cases h
 · cases h
 · exact ⟨a,b,c,rfl⟩
 simp at h
theorem shape_cells {enc:TypeId×Value->H} {sp:Nat->Bool} {held:Bool} {cs:List Value} {l:List UInt8} {a b:Bool} {p:List MemPlace}
 (h:DataW.trod enc prog w base sp held fuel 166 cs=some (.agg [.lit (.string l),.lit (.bool a),.lit (.bool b)],p)):cs=[.string ⟨l.toArray⟩,.bool a,.bool b]:=by
 obtain ⟨y0,y1,y2,n,hx,hlen,h0,h1,h2⟩:=Go.Deep.trod_struct3 underlying166 h;rw [cells166] at hlen;obtain ⟨c0,c1,c2,rfl⟩:=list3 hlen;simp only [cells9,cells4] at h0 h1 h2;obtain ⟨s,e0,r0,_⟩:=DataW.trod_string underlying9 h0;obtain ⟨a',e1,r1⟩:=DataW.trod_bool underlying4 h1;obtain ⟨b',e2,r2⟩:=DataW.trod_bool underlying4 h2;subst r0 r1 r2;simp at e0 e1 e2 hx;obtain ⟨⟨q0,q1,q2⟩,_⟩:=hx;have:s=⟨l.toArray⟩:=by apply ByteArray.ext;rw [q0]
 rw [e0,e1,e2,this,q1,q2]
theorem map_fst_get {xs:List (DataW H×List MemPlace)} {ds:List (DataW H)} (h:xs.map (·.1)=ds) {d:DataW H} (hd:ds[i]?=some d):∃ p,xs[i]?=some (d,p):=by
 rw [<- h,List.getElem?_map] at hd
 cases hx:xs[i]? with
 | none=>rw [hx] at hd;simp at hd
 | some y=>rw [hx] at hd;simp at hd;exact ⟨y.2,by rw [<- hd]⟩
theorem take3 {l:List α} {a b c:α} (h:(l.drop i).take 3=[a,b,c]):l[i]?=some a/\l[i+1]?=some b/\l[i+2]?=some c:=by
 have g:∀ j,j<3->((l.drop i).take 3)[j]?=l[i+j]?:=fun j hj=>by rw [List.getElem?_take_of_lt hj,List.getElem?_drop]
 rw [h] at g;exact ⟨(g 0 om_).symm,(g 1 om_).symm,(g 2 om_).symm⟩
def shapeD {H:Type} (op:Nat):DataW H:=.agg [.lit (.string (word op)),.lit (.bool (usesTo op)),.lit (.bool (usesTx op))]
theorem laid_at (op:Nat) (h1:1<=op) (h2:op<=11):∃ ds:List (DataW Unit),Rows.laid_loop_example_kiln_impl_shapes=DataW.agg ds/\ds[op]?=some (shapeD op):=by
 refine ⟨_,rfl,?_⟩;obtain rfl | rfl | rfl | rfl | rfl | rfl | rfl | rfl | rfl | rfl | rfl:op=1\/op=2\/op=3\/op=4\/op=5\/op=6\/op=7\/op=8\/op=9\/op=10\/op=11:=om_
 all_goals rfl
theorem shapes_of_reads (h:Go.Lib.VarReads prog W "loop.example/kiln/impl.shapes" Rows.laid_loop_example_kiln_impl_shapes):ShapesAt W:=by
 obtain ⟨g,t,cs,fuel,p,hg,hty,hvar,hd⟩:=h;obtain rfl:=Option.some.inj (gShapes.symm.trans hg);obtain rfl:=Option.some.inj (gShapesT.symm.trans hty);obtain ⟨xs,m,_,hx,hcl,hxl,hel⟩:=DataW.trod_array underlying167 hd;intro op h1 h2;obtain ⟨ds,hds,hget⟩:=laid_at op h1 h2;rw [hds] at hx;have hmap:xs.map (·.1)=ds:=by
  have:=congrArg Prod.fst hx;injection this with this;exact this.symm
 obtain ⟨q,hq⟩:=map_fst_get hmap hget;have he:=hel op om_;rw [hq,cells166] at he;have hc:=shape_cells he;obtain ⟨r0,r1,r2⟩:=take3 hc;have hv:=World.var?_cell hg hvar;refine ⟨?_,?_,?_⟩
 · rw [hv,<- Array.getElem?_toList];exact r0
 · rw [hv,<- Array.getElem?_toList];exact r1
 rw [hv,<- Array.getElem?_toList];exact r2
end Go.Proofs.YthjhakdpikdoeaaGreatDoor.LT
namespace Go.Proofs.YthjhakdpikdoeaaGreatDoor
open Proofs.Tryz
open Go.RowKit
theorem goL_fold {tl ar:ByteArray}:∀ (ls:List M.L4) (t:TN) (s:RS),(∀ a x b,ls=a++x::b->¬ Halt (a.foldl (fun p x=>nextR tl ar p.2 ⟨x.cd,x.tx⟩) (t,s)).1 x)->goL tl ar t s ls=(ls.foldl (fun p x=>nextR tl ar p.2 ⟨x.cd,x.tx⟩) (t,s)).1
 | [],_,_,_=>rfl
 | x::xs,t,s,h=>by
  rw [goL_go (show ¬ Halt t x from h [] x xs rfl)];refine (goL_fold xs _ _ fun a y b e=>?_).trans rfl;have:=h (x::a) y b (by rw [e];rfl);exact this
theorem goT_hist {E:Env} (hE:EnvOk E) {m:M3} {L:List M.L4} (hm:okM m=true) (h:Hist E m L):goT m L=tn m L:=by
 rw [goT_yes hm (hist_ok hE hm h).1];refine goL_fold L _ _ fun a x b e=>?_;subst e;obtain ⟨h1,r,h2,h3⟩:=hist_next h;have hk:=(hist_ok hE hm h).2 x sm_;intro hh;rcases hh with hh | hh | hh | hh
 · exact absurd (hh.symm.trans h1) dc_
 · exact hh (by rw [h2];rfl)
 · exact hh (by rw [h2];rfl)
 exact hh hk
end Go.Proofs.YthjhakdpikdoeaaGreatDoor
namespace Go.Proofs.YthjhakdpikdoeaaGreatDoor.M
open Proofs.Tryz
open Go.RowKit
def lkC (is:List L4):List Value:=is.flatMap fun x=>[.bool x.has,.string x.nm,.int .i64 x.cd,.string x.tx]
theorem lkC_len (is:List L4):(lkC is).length=is.length*4:=by
 induction is with
 | nil=>rfl
 | cons x is ih=>
  show ([_,_,_,_]++lkC is).length=_;rw [List.length_append,ih];simp;omega
theorem lkC_one (is:List L4):∀ u∈lkC is,u.oneCell'=true:=by
 intro u hu;obtain ⟨x,_,hx⟩:=List.mem_flatMap.1 hu;simp at hx;rcases hx with rfl | rfl | rfl | rfl <;> rfl
theorem lkC_get (is:List L4):∀ i,i<is.length->(lkC is)[i*4]?=some (.bool (is.getD i l4z).has)/\(lkC is)[i*4+1]?=some (.string (is.getD i l4z).nm)/\(lkC is)[i*4+2]?=some (.int .i64 (is.getD i l4z).cd)/\(lkC is)[i*4+3]?=some (.string (is.getD i l4z).tx):=by
 induction is with
 | nil=>intro i h;exact absurd h (Nat.not_lt_zero _)
 | cons x is ih=>
  intro i h
  cases i with
  | zero=>exact ⟨rfl,rfl,rfl,rfl⟩
  | succ i=>
   have hi:i<is.length:=by simpa using h
   have k:=ih i hi;have e:∀ j,(lkC (x::is))[(i+1)*4+j]?=(lkC is)[i*4+j]?:=fun j=>by
    show ([_,_,_,_]++lkC is)[(i+1)*4+j]?=_;rw [List.getElem?_append_right so_]
    congr 1
    simp;omega
   have e0:=e 0;simp only [Nat.add_zero] at e0;rw [e0,e 1,e 2,e 3];simpa using k
theorem lkC_src {w:World} {b off:Nat} {is:List L4} (h:∀ i,i<is.length->w.cell? ⟨b,off+i*4,none⟩=some (.bool (is.getD i l4z).has)/\w.cell? ⟨b,off+i*4+1,none⟩=some (.string (is.getD i l4z).nm)/\w.cell? ⟨b,off+i*4+2,none⟩=some (.int .i64 (is.getD i l4z).cd)/\w.cell? ⟨b,off+i*4+3,none⟩=some (.string (is.getD i l4z).tx)):
 ∀ j u,(lkC is)[j]?=some u->w.cell? ((⟨b,off,none⟩:Addr).add j)=some u:=by
 intro j u hu;have hj:j<is.length*4:=by rw [<- lkC_len];exact (List.getElem?_eq_some_iff.1 hu).1
 have k:=lkC_get is (j / 4) om_;have c:=h (j / 4) om_;have ea:(⟨b,off,none⟩:Addr).add j=⟨b,off+j,none⟩:=by unfold Addr.add;split <;> simp_all
 rw [ea];have hm:j % 4=0\/j % 4=1\/j % 4=2\/j % 4=3:=om_;rcases hm with hm | hm | hm | hm
 · have e:j=j / 4*4:=om_
   have e2:off+j=off+j / 4*4:=om_;rw [e2,c.1,<- hu];rw [show (lkC is)[j]?=(lkC is)[j / 4*4]? by rw [<- e],k.1]
 · have e:j=j / 4*4+1:=om_
   have e2:off+j=off+j / 4*4+1:=om_;rw [e2,c.2.1,<- hu];rw [show (lkC is)[j]?=(lkC is)[j / 4*4+1]? by rw [<- e],k.2.1]
 · have e:j=j / 4*4+2:=om_
   have e2:off+j=off+j / 4*4+2:=om_;rw [e2,c.2.2.1,<- hu];rw [show (lkC is)[j]?=(lkC is)[j / 4*4+2]? by rw [<- e],k.2.2.1]
 have e:j=j / 4*4+3:=om_;have e2:off+j=off+j / 4*4+3:=om_;rw [e2,c.2.2.2,<- hu];rw [show (lkC is)[j]?=(lkC is)[j / 4*4+3]? by rw [<- e],k.2.2.2]
structure LkOwn (w:World) (B:Nat) (ao:Option Addr) (is:List L4):Prop where
 at':LksAt w ao is
 own:is=[]\/∃ g,ao=some ⟨g,0,none⟩/\B<=g/\Open4 w g is.length
theorem own_lks {w:World} {B:Nat} {v:Value} {n:Nat} {is:List L4} (h:w.ownsRow B 74 4 v n (lkC is)) (hn:n=is.length):∃ ao c,v=.slice ao n c/\LkOwn w B ao is:=by
 subst hn;have h':=h;obtain ⟨h1,h2⟩:=h;rcases h2 with ⟨rfl,h0⟩ | ⟨g,cp,cur,rfl,hg,hh,_⟩
 · have e:is=[]:=List.length_eq_zero_iff.1 h0
   subst e;exact ⟨none,0,rfl,.inl rfl,.inl rfl⟩
 have hlt:g<w.heap.size:=blk_lt hh;refine ⟨some ⟨g,0,none⟩,cp,rfl,.inr ⟨g,0,rfl,hlt,fun i hi=>?_⟩,.inr ⟨g,rfl,hg,hlt,fun j hj=>?_,fun j=>h'.frozenAt j⟩⟩
 · have k:=lkC_get is i hi
   simp only [Nat.zero_add];rw [h'.cellAt _ om_,h'.cellAt _ om_,h'.cellAt _ om_,h'.cellAt _ om_];exact k
 rw [h'.cellAt j hj];have:j<(lkC is).length:=by rw [lkC_len];exact hj
 exact ⟨_,List.getElem?_eq_getElem this⟩
theorem wpList_app {P:Program} {ops:Array Oper} {rest:List Oper} {o:Oper} {a:Act} {w:World} {Q:Exit->Act->World->Prop}
 (hgd:o.guard=none) (s x:Operand) (t:TypeId) (hop:o.op=Op.call { callee:=Callee.builtin Builtin.append,args:=#[s,x],argTypes:=#[t,t] })
 (base:Nat) (e:TypeId) (i:TypeInfo) (z:Value) (size bytes:Nat) (h1:P.underlying t=some (.slice e)) (h2:P.info? e=some i) (h3:i.zero=some z) (h4:i.size=size) (h5:i.bytes=bytes) (h6:z.cells.size=size) (h7:0<size)
 (v:Value) (n:Nat) (xs:List Value) (hs:a.eval s=v) (hown:w.ownsRow base e size v n xs)
 (sa:Option Addr) (m c:Nat) (news:List Value) (hx:a.eval x=.slice sa m c) (hn:news.length=m*size) (hsa:(∃ ad,sa=some ad/\∀ j u,news[j]?=some u->w.cell? (ad.add j)=some u)\/(sa=none/\m=0)) (h1c:∀ u∈news,u.oneCell'=true)
 (b1:n+m<=maxLen) (b2:(n+m)*bytes<=140737488355328) (hb:base<=w.heap.size)
 (hK:∀ v' w',w'.ownsRow base e size v' (n+m) (xs++news)->w.grownBy w' v.ownBlock->wpList P ops Q rest (a.put o.dst v') w'):wpList P ops Q (o::rest) a w:=by
 refine wpList_plain hgd fun K hK'=>?_;rcases hsa with ⟨ad,rfl,hc⟩ | ⟨rfl,rfl⟩;rotate_left
 · have hrun:(Builtin.append_ #[t,t] o.type #[v,.slice none 0 c]).run P w=.ok v w:=by
    rcases hown.2 with ⟨rfl,rfl⟩ | ⟨g,cap,cur,rfl,hbg,hg,hnc,hcm,hcs,htake⟩
    · simp [Builtin.append_,run_underlying h1,sizeOf,typeInfo,h2,Builtin.lenOf,Builtin.firstCells]
    simp [Builtin.append_,run_underlying h1,sizeOf,typeInfo,h2,Builtin.lenOf,Builtin.firstCells,loadCells,hnc,storeCells]
   unfold Oper.wp;simp [execOp,hop,resolve,invoke,builtin,hs,hx,hrun,Result.andThen];obtain rfl:news=[]:=List.length_eq_zero_iff.1 (by rw [hn,Nat.zero_mul]);exact hK' _ _ (hK v w (by simpa using hown) ⟨rfl,rfl,rfl,Nat.le_refl _,fun _ _ _=>rfl⟩)
 obtain ⟨v',w',hrun,r1,r2,_⟩:=run_append_own (P:=P) w base t o.type e i z size bytes h1 h2 h3 h4 h5 h6 h7 v n xs hown ad m c news hn hc h1c b1 b2 hb;unfold Oper.wp;simp [execOp,hop,resolve,invoke,builtin,hs,hx,hrun,Result.andThen];exact hK' _ _ (hK v' w' r1 r2)
theorem LkOwn.mono {w:World} {B B':Nat} {ao:Option Addr} {is:List L4} (h:LkOwn w B ao is) (hB:B'<=B):LkOwn w B' ao is:=
 ⟨h.at',h.own.imp id fun ⟨g,h1,h2,h3⟩=>⟨g,h1,Nat.le_trans hB h2,h3⟩⟩
theorem lkown_set {w:World} {B:Nat} {ao:Option Addr} {is:List L4} (h:LkOwn w B ao is) (p:Addr) (v:Value) (hp:p.block<B):LkOwn (w.setCell p v) B ao is:=by
 rcases h.own with rfl | ⟨g,rfl,hg,ho⟩
 · exact ⟨.inl rfl,.inl rfl⟩
 have hne:∀ j,p≠(⟨g,j,none⟩:Addr):=fun j e=>by rw [e] at hp;have:g<B:=hp;omega
 have hc:∀ j,(w.setCell p v).cell? ⟨g,j,none⟩=w.cell? ⟨g,j,none⟩:=fun j=>World.cell?_setCell_other _ _ _ _ (hne j);refine ⟨?_,.inr ⟨g,rfl,hg,by simpa using ho.1,fun j hj=>by rw [hc];exact ho.2.1 j hj,fun j=>by simpa using ho.2.2 j⟩⟩;rcases h.at' with h1 | ⟨b,off,h1,h2,h3⟩
 · exact .inl h1
 injection h1 with h1;injection h1 with h1 h4;subst h1;subst h4;exact .inr ⟨g,0,rfl,by simpa using h2,fun i hi=>by rw [hc,hc,hc,hc];exact h3 i hi⟩
theorem lkown_fill {B:Nat} {ao:Option Addr} {is:List L4} (b:Nat) (vs:List Value) (hb:b<B):∀ {w:World} (j:Nat),LkOwn w B ao is->LkOwn (fill w b j vs) B ao is:=by
 induction vs with
 | nil=>intro w j h;exact h
 | cons v vs ih=>intro w j h;exact ih (j+1) (lkown_set h ⟨b,j,none⟩ v hb)
theorem lk_src {w:World} {b:Nat} {is:List L4} (hat:LksAt w (some ⟨b,0,none⟩) is):∀ u,Below w.heap.size w u->∀ j v,(lkC is)[j]?=some v->u.cell? ((⟨b,0,none⟩:Addr).add j)=some v:=by
 rcases hat with rfl | ⟨b',off',h1,h2,h3⟩
 · intro u hu j v hv;simp [lkC] at hv
 injection h1 with h1;injection h1 with h1 h4;subst h1;subst h4;intro u hu j v hv;rw [hu.cell (by unfold Addr.add;split <;> exact h2)];exact lkC_src h3 j v hv
theorem c53 (b n:Nat) (is:List L4) (w:World) (hl:is.length<=1048576) (hat:LksAt w (some ⟨b,0,none⟩) is):
 Calls prog 53 #[.slice (some ⟨b,0,none⟩) is.length n] w fun e w'=>(∃ ao c,e=.returned (.slice ao is.length c)/\LkOwn w' w.heap.size ao is)/\Below w.heap.size w w':=by
 obtain ⟨i0,hi,hz0,hz1,hz2⟩:=info_parts info74;have hnil:∀ u,(binOp .eql 25 (.slice (some ⟨b,0,none⟩) is.length n) (.slice none 0 0)).run prog u=.ok (.bool false) u:=fun u=>kr_;have HSRC:Hid (∀ u,Below w.heap.size w u->∀ j v,(lkC is)[j]?=some v->u.cell? ((⟨b,0,none⟩:Addr).add j)=some v):=lk_src hat;clear hat;go_enter func53,ntmps53;have hmark:True:=trivial
 go_wp2_with (refine wpList_app rfl (.tmp 5) (.tmp 6) 25 rfl w.heap.size 74 i0 (.agg #[.bool false,.string ⟨#[]⟩,.int .i64 0,.string ⟨#[]⟩]) 4 48 underlying25 hi hz0 hz1 hz2 rfl dc_ _ _ _ rfl ((World.ownsRow_made w #[] 0 lr_ (Nat.zero_le _) rfl)) (some ⟨b,0,none⟩) is.length n (lkC is) rfl (lkC_len is) (.inl ⟨_,rfl,HSRC.out _ bA⟩) (lkC_one is) (by unfold maxLen;omega) om_ sm_ ?_;revert hmark)
 intro v' w2 hown hgrow;obtain ⟨ao,c,rfl,hlk⟩:=own_lks (is:=is) hown rfl;have hB2:Below w.heap.size w w2:=bA.grown hgrow sm_ (fun kb h=>by have h':some w.heap.size=some kb:=h;injection h' with h';omega);go_wp2;go_ret;exact ⟨⟨ao,c,rfl,hlk⟩,hB2⟩
def NS (b:Option Addr) (n:Nat) (is:List L4):Prop:=(∃ g,b=some ⟨g,0,none⟩)\/is=[]
theorem c53n (b:Option Addr) (n:Nat) (w:World):Calls prog 53 #[.slice b 0 n] w fun e w'=>(∃ ao c,e=.returned (.slice ao 0 c)/\LkOwn w' w.heap.size ao [])/\Below w.heap.size w w':=by
 cases b with
 | none=>
  have hnil:∀ u,(binOp .eql 25 (.slice none 0 n) (.slice none 0 0)).run prog u=.ok (.bool true) u:=fun u=>kr_;go_enter func53,ntmps53;go_wp2;go_ret;exact ⟨⟨none,0,rfl,⟨.inl rfl,.inl rfl⟩⟩,Below.refl _ _⟩
 | some ad=>
  obtain ⟨i0,hi,hz0,hz1,hz2⟩:=info_parts info74;have hnil:∀ u,(binOp .eql 25 (.slice (some ad) 0 n) (.slice none 0 0)).run prog u=.ok (.bool false) u:=fun u=>kr_;go_enter func53,ntmps53;have hmark:True:=trivial
  go_wp2_with (refine wpList_app rfl (.tmp 5) (.tmp 6) 25 rfl w.heap.size 74 i0 (.agg #[.bool false,.string ⟨#[]⟩,.int .i64 0,.string ⟨#[]⟩]) 4 48 underlying25 hi hz0 hz1 hz2 rfl dc_ _ _ _ rfl ((World.ownsRow_made w #[] 0 lr_ (Nat.zero_le _) rfl)) (some ad) 0 n [] rfl rfl (.inl ⟨_,rfl,fun j u e=>by simp at e⟩) (fun u h=>nomatch h) (by unfold maxLen;omega) om_ sm_ ?_;revert hmark)
  intro v' w2 hown hgrow;obtain ⟨ao,c,rfl,hlk⟩:=own_lks (is:=[]) hown rfl;have hB2:Below w.heap.size w w2:=bA.grown hgrow sm_ (fun kb h=>by have h':some w.heap.size=some kb:=h;injection h' with h';omega);go_wp2;go_ret;exact ⟨⟨ao,c,rfl,hlk⟩,hB2⟩
theorem c53u (b:Option Addr) (n:Nat) (is:List L4) (w:World) (hl:is.length<=1048576) (hat:LksAt w b is) (hN:NS b n is):
 Calls prog 53 #[.slice b is.length n] w fun e w'=>(∃ ao c,e=.returned (.slice ao is.length c)/\LkOwn w' w.heap.size ao is)/\Below w.heap.size w w':=by
 rcases hN with ⟨g,rfl⟩ | rfl
 · exact c53 g n is w hl hat
 exact c53n b n w
theorem lk_srcu {w:World} {b:Option Addr} {n:Nat} {is:List L4} (hat:LksAt w b is) (hN:NS b n is):∀ u,Below w.heap.size w u->(∃ ad,b=some ad/\∀ j v,(lkC is)[j]?=some v->u.cell? (ad.add j)=some v)\/(b=none/\is.length=0):=fun u hu=>by
 rcases hN with ⟨g,rfl⟩ | rfl
 · exact .inl ⟨_,rfl,lk_src hat u hu⟩
 cases b with
 | none=>exact .inr ⟨rfl,rfl⟩
 | some ad=>exact .inl ⟨ad,rfl,fun j v e=>by simp [lkC] at e⟩
theorem LkOwn.ns {w:World} {B:Nat} {ao:Option Addr} {is:List L4} (h:LkOwn w B ao is) (n:Nat):NS ao n is:=by
 rcases h.own with h | ⟨g,h,_⟩
 · exact .inr h
 exact .inl ⟨g,h⟩
theorem c28 (x:G16) (b:Option Addr) (n:Nat) (w:World) (hl:x.ls.length<=1048576) (hat:LksAt w b x.ls) (hN:NS b n x.ls):
 Calls prog 28 #[.agg (lgA x b n)] w fun e w'=>(∃ ao c,e=.returned (.agg (lgA x ao c))/\LkOwn w' w.heap.size ao x.ls)/\Below w.heap.size w w':=by
 obtain ⟨i0,hi,hz0,hz1,hz2⟩:=info_parts info74;have HSRC:=lk_srcu hat hN;have hB0:Below w.heap.size w ((w.alloc (.cells (lgA x b n) 31)).alloc (.cells lzA 31)):=bA.alloc sm_ _;have ZM:BlkAt ((w.alloc (.cells (lgA x b n) 31)).alloc (.cells lzA 31)) w.heap.size (lgL x b n):=fun j v h=>by simp [go_sem,h]
 have ZR:BlkAt ((w.alloc (.cells (lgA x b n) 31)).alloc (.cells lzA 31)) (w.heap.size+1) lzL:=fun j v h=>by simp [go_sem,h]
 have fM:OpnAt ((w.alloc (.cells (lgA x b n) 31)).alloc (.cells lzA 31)) w.heap.size:=fun j=>by simp [go_sem]
 have fR:OpnAt ((w.alloc (.cells (lgA x b n) 31)).alloc (.cells lzA 31)) (w.heap.size+1):=fun j=>by simp [go_sem]
 have hz0':((w.alloc (.cells (lgA x b n) 31)).alloc (.cells lzA 31)).heap.size=w.heap.size+2:=sm_;have a8:=ZM 8 _ rfl;have hown0:(((w.alloc (.cells (lgA x b n) 31)).alloc (.cells lzA 31)).alloc (.cells #[] 74)).ownsRow (w.heap.size+2) 74 4 (.slice (some ⟨w.heap.size+2,0,none⟩) 0 0) 0 []:=by
  have h:=World.ownsRow_made (base:=w.heap.size+2) (e:=74) (size:=4) ((w.alloc (.cells (lgA x b n) 31)).alloc (.cells lzA 31)) #[] 0 (by rw [hz0'];exact Nat.le_refl _) (Nat.zero_le _) rfl;rw [hz0'] at h;exact h
 clear hat;go_enter func28,ntmps28;have hmark:True:=trivial
 go_wp2_with (refine wpList_app rfl (.tmp 3) (.tmp 5) 25 rfl (w.heap.size+2) 74 i0 (.agg #[.bool false,.string ⟨#[]⟩,.int .i64 0,.string ⟨#[]⟩]) 4 48 underlying25 hi hz0 hz1 hz2 rfl dc_ _ _ _ rfl hown0 b x.ls.length n (lkC x.ls) rfl (lkC_len x.ls) (HSRC _ (hB0.alloc hB0.size _)) (lkC_one x.ls) (by unfold maxLen;omega) om_ (by first | (simp;done) | (simp;omega)) ?_;revert hmark)
 intro v' w2 hown hgrow;obtain ⟨ao,c,rfl,hlk⟩:=own_lks (is:=x.ls) hown rfl;have HLK:Hid (LkOwn w2 (w.heap.size+2) ao x.ls):=hlk;have hX2:Below (w.heap.size+2) ((w.alloc (.cells (lgA x b n) 31)).alloc (.cells lzA 31)) w2:=((Below.refl (w.heap.size+2) ((w.alloc (.cells (lgA x b n) 31)).alloc (.cells lzA 31))).alloc (by rw [hz0'];exact Nat.le_refl _) _).grown hgrow (by first | (simp;done) | (simp;omega)) (fun kb h=>by have h':some (w.heap.size+2)=some kb:=h;injection h' with h';omega);have hB2:Below w.heap.size w w2:=hB0.trans (hX2.mono om_);have hz2':w.heap.size+2<=w2.heap.size:=by have:=hX2.size;rw [hz0'] at this;exact this
 have ZM2:=ZM.below hX2 om_;have ZR2:=ZR.below hX2 om_;have fM2:=fM.below hX2 om_;have fR2:=fR.below hX2 om_;have b8:=ZM2 8 _ rfl;have g8:=fM2 8;have ZM3:BlkAt (w2.setCell ⟨w.heap.size,8,none⟩ (.slice ao x.ls.length c)) w.heap.size (lgL x ao c):=ZM2.set 8 (.slice ao x.ls.length c) sm_;have ZR3:BlkAt (w2.setCell ⟨w.heap.size,8,none⟩ (.slice ao x.ls.length c)) (w.heap.size+1) lzL:=ZR2.other _ _ (by show w.heap.size≠w.heap.size+1;omega);have fR3:OpnAt (w2.setCell ⟨w.heap.size,8,none⟩ (.slice ao x.ls.length c)) (w.heap.size+1):=fR2.set _ _;have hSome:∀ i,i<((lgL x ao c):List Value).length->((w2.setCell ⟨w.heap.size,8,none⟩ (.slice ao x.ls.length c)).cell? ⟨w.heap.size+1,0+i,none⟩).isSome=true:=fun i hi=>by
  rw [Nat.zero_add];have hz:i<(lzL:List Value).length:=hi;rw [ZR3 i _ (List.getElem?_eq_getElem hz)];rfl
 clear ZM ZR fM fR a8 hown0 hown hgrow hlk ZM2 fM2
 go_wp2_with (first | refine wpList_load_blk rfl 31 (.tmp 1) rfl w.heap.size rfl (lgL x ao c) _ ZM3 underlying31 rfl kr_ ?_ | refine wpList_store_blk rfl 31 (.tmp 2) (.tmp 8) rfl (w.heap.size+1) 0 rfl (lgL x ao c) rfl hSome fR3 (by simp [Value.oneCell']) kr_ rfl ?_)
 have F:BlkAt (fill (w2.setCell ⟨w.heap.size,8,none⟩ (.slice ao x.ls.length c)) (w.heap.size+1) 0 (lgL x ao c)) (w.heap.size+1) (lgL x ao c):=BlkAt.fill (lgL x ao c) [] lzL [] 0 ZR3 rfl rfl;have hBu:But w.heap.size w2 (w2.setCell ⟨w.heap.size,8,none⟩ (.slice ao x.ls.length c)):=(But.refl _ _).setCell _ _;have hBF:Below w.heap.size w (fill (w2.setCell ⟨w.heap.size,8,none⟩ (.slice ao x.ls.length c)) (w.heap.size+1) 0 (lgL x ao c)):=below_fill om_ _ _ (hB2.setCell (p:=⟨w.heap.size,8,none⟩) lr_ _);have HLF:Hid (LkOwn (fill (w2.setCell ⟨w.heap.size,8,none⟩ (.slice ao x.ls.length c)) (w.heap.size+1) 0 (lgL x ao c)) w.heap.size ao x.ls):=(lkown_fill (w.heap.size+1) _ om_ 0 (lkown_set HLK.out ⟨w.heap.size,8,none⟩ _ (by show w.heap.size<w.heap.size+2;omega))).mono om_;generalize (fill (w2.setCell ⟨w.heap.size,8,none⟩ (.slice ao x.ls.length c)) (w.heap.size+1) 0 (lgL x ao c))=V at*;refine bodyPost_ret (v:=.agg ((lgL x ao c):List Value).toArray) (results_blk (P:=prog) (ty:=31) rfl _ V (w.heap.size+1) (lgL x ao c) _ rfl F underlying31 rfl kr_) rfl ⟨⟨ao,c,rfl,HLF.out⟩,hBF⟩
theorem lkown_below {w w':World} {B:Nat} {ao:Option Addr} {is:List L4} (h:LkOwn w B ao is) (hb:Below w.heap.size w w'):LkOwn w' B ao is:=
 ⟨lks_below h.at' hb,h.own.imp id fun ⟨g,h1,h2,h3⟩=>⟨g,h1,h2,h3.below hb⟩⟩
theorem c25 (x:W19) (b:Option Addr) (n:Nat) (w:World) (hl:x.of.ls.length<=1048576) (hat:LksAt w b x.of.ls) (hN:NS b n x.of.ls):
 Calls prog 25 #[.agg (lhA x.no x.up x.has x.of b n)] w fun e w'=>(∃ ao c,e=.returned (.agg (lhA x.no x.up x.has x.of ao c))/\LkOwn w' w.heap.size ao x.of.ls)/\Below w.heap.size w w':=by
 have HA:Hid (LksAt w b x.of.ls):=hat;have hB0:Below w.heap.size w ((w.alloc (.cells (lhA x.no x.up x.has x.of b n) 33)).alloc (.cells (lkA 0 false false) 33)):=bA.alloc sm_ _;have ZM:BlkAt ((w.alloc (.cells (lhA x.no x.up x.has x.of b n) 33)).alloc (.cells (lkA 0 false false) 33)) w.heap.size (lhL x.no x.up x.has x.of b n):=fun j v h=>by simp [go_sem,h]
 have ZR:BlkAt ((w.alloc (.cells (lhA x.no x.up x.has x.of b n) 33)).alloc (.cells (lkA 0 false false) 33)) (w.heap.size+1) (lkL 0 false false):=fun j v h=>by simp [go_sem,h]
 have fM:OpnAt ((w.alloc (.cells (lhA x.no x.up x.has x.of b n) 33)).alloc (.cells (lkA 0 false false) 33)) w.heap.size:=fun j=>by simp [go_sem]
 have fR:OpnAt ((w.alloc (.cells (lhA x.no x.up x.has x.of b n) 33)).alloc (.cells (lkA 0 false false) 33)) (w.heap.size+1):=fun j=>by simp [go_sem]
 have hz0':((w.alloc (.cells (lhA x.no x.up x.has x.of b n) 33)).alloc (.cells (lkA 0 false false) 33)).heap.size=w.heap.size+2:=sm_;clear hat;go_enter func25,ntmps25
 go_wp2_with fail
 refine (c28 x.of b n _ hl (lks_below HA.out hB0) hN).mono ?_;rintro e w2 ⟨⟨ao,c,rfl,hlk⟩,hb2⟩;rw [hz0'] at hlk;have HLK:Hid (LkOwn w2 (w.heap.size+2) ao x.of.ls):=hlk;have hX2:Below (w.heap.size+2) ((w.alloc (.cells (lhA x.no x.up x.has x.of b n) 33)).alloc (.cells (lkA 0 false false) 33)) w2:=by rw [<- hz0'];exact hb2
 have hB2:Below w.heap.size w w2:=hB0.trans (hX2.mono om_);have hz2':w.heap.size+2<=w2.heap.size:=by have:=hX2.size;rw [hz0'] at this;exact this
 have ZM2:=ZM.below hX2 om_;have ZR2:=ZR.below hX2 om_;have fM2:=fM.below hX2 om_;have fR2:=fR.below hX2 om_;have hSomeM:∀ i,i<((lgL x.of ao c):List Value).length->(w2.cell? ⟨w.heap.size,3+i,none⟩).isSome=true:=fun i hi=>by
  have hz:3+i<((lhL x.no x.up x.has x.of b n):List Value).length:=by simp at hi ⊢;omega
  rw [ZM2 (3+i) _ (List.getElem?_eq_getElem hz)];rfl
 have ZM3:BlkAt (fill w2 w.heap.size 3 (lgL x.of ao c)) w.heap.size (lhL x.no x.up x.has x.of ao c):=BlkAt.fill (lgL x.of ao c) [.int .i64 x.no,.bool x.up,.bool x.has] (lgL x.of b n) [] 3 ZM2 rfl rfl;have ZR3:BlkAt (fill w2 w.heap.size 3 (lgL x.of ao c)) (w.heap.size+1) (lkL 0 false false):=BlkAt.fillO om_ _ _ ZR2;have fR3:OpnAt (fill w2 w.heap.size 3 (lgL x.of ao c)) (w.heap.size+1):=OpnAt.fill _ _ fR2;have HL3:Hid (LkOwn (fill w2 w.heap.size 3 (lgL x.of ao c)) (w.heap.size+2) ao x.of.ls):=lkown_fill w.heap.size _ om_ 3 HLK.out;have hB3:Below w.heap.size w (fill w2 w.heap.size 3 (lgL x.of ao c)):=below_fill lr_ _ _ hB2;have hSome:∀ i,i<((lhL x.no x.up x.has x.of ao c):List Value).length->((fill w2 w.heap.size 3 (lgL x.of ao c)).cell? ⟨w.heap.size+1,0+i,none⟩).isSome=true:=fun i hi=>by
  rw [Nat.zero_add];have hz:i<((lkL 0 false false):List Value).length:=hi;rw [ZR3 i _ (List.getElem?_eq_getElem hz)];rfl
 clear ZM ZR fM fR hlk hb2 hX2 HLK ZM2 ZR2 fR2 hB2;have hmark:True:=trivial
 go_wp2_with (refine wpList_store_blk rfl 31 (.tmp 6) (.tmp 5) rfl w.heap.size 3 rfl (lgL x.of ao c) rfl hSomeM fM2 (by simp [Value.oneCell']) kr_ rfl ?_;revert hmark)
 intro _;clear hSomeM fM2;generalize (fill w2 w.heap.size 3 (lgL x.of ao c))=U at*
 go_wp2_with (first | refine wpList_load_blk rfl 33 (.tmp 1) rfl w.heap.size rfl (lhL x.no x.up x.has x.of ao c) _ ZM3 underlying33 rfl kr_ ?_ | refine wpList_store_blk rfl 33 (.tmp 2) (.tmp 7) rfl (w.heap.size+1) 0 rfl (lhL x.no x.up x.has x.of ao c) rfl hSome fR3 (by simp [Value.oneCell']) kr_ rfl ?_)
 have F:BlkAt (fill U (w.heap.size+1) 0 (lhL x.no x.up x.has x.of ao c)) (w.heap.size+1) (lhL x.no x.up x.has x.of ao c):=BlkAt.fill (lhL x.no x.up x.has x.of ao c) [] (lkL 0 false false) [] 0 ZR3 rfl rfl;have hBF:Below w.heap.size w (fill U (w.heap.size+1) 0 (lhL x.no x.up x.has x.of ao c)):=below_fill om_ _ _ hB3;have HLF:Hid (LkOwn (fill U (w.heap.size+1) 0 (lhL x.no x.up x.has x.of ao c)) w.heap.size ao x.of.ls):=(lkown_fill (w.heap.size+1) _ om_ 0 HL3.out).mono om_;generalize (fill U (w.heap.size+1) 0 (lhL x.no x.up x.has x.of ao c))=V at*;refine bodyPost_ret (v:=.agg ((lhL x.no x.up x.has x.of ao c):List Value).toArray) (results_blk (P:=prog) (ty:=33) rfl _ V (w.heap.size+1) (lhL x.no x.up x.has x.of ao c) _ rfl F underlying33 rfl kr_) rfl ⟨⟨ao,c,rfl,HLF.out⟩,hBF⟩
end Go.Proofs.YthjhakdpikdoeaaGreatDoor.M
