import Derived.Test.YtlckdgjfniglfaaGreatDoorEY2
import Derived.Shelf.Strings.Builder1
import Derived.Laws.Externs
set_option linter.unusedVariables false
set_option maxHeartbeats 8000000
set_option maxRecDepth 100000
namespace Go.Proofs.YtlckdgjfniglfaaGreatDoor
open Proofs.Tryz
open Go.RowKit
def LksOk (ls:List L4):Prop:=ls.length<=15/\∀ i,i<ls.length->LkOk (ls.getD i l4z)
theorem c106 (a:Option Addr) (cap:Nat) (ls:List L4) (w:World) (hl:ls.length<=1048576) (hs:∀ i,(ls.getD i l4z).le 1048576) (hat:LksAt w a ls):
 Calls prog 106 #[.slice a ls.length cap] w fun e w'=>IsB (LksOk ls) e/\Below w.heap.size w w':=by
 obtain ⟨b,off,hc⟩:=lks_some hat;have HC:Hid (ls=[]\/(a=some ⟨b,off,none⟩/\b<w.heap.size/\∀ i,i<ls.length->w.cell? ⟨b,off+i*4,none⟩=some (.bool (ls.getD i l4z).has)/\w.cell? ⟨b,off+i*4+1,none⟩=some (.string (ls.getD i l4z).nm)/\w.cell? ⟨b,off+i*4+2,none⟩=some (.int .i64 (ls.getD i l4z).cd)/\w.cell? ⟨b,off+i*4+3,none⟩=some (.string (ls.getD i l4z).tx))):=hc;have HS:Hid (∀ i,(ls.getD i l4z).le 1048576):=hs;clear hc hat hs;by_cases hbig:15<ls.length
 · have HN:Hid (IsB (LksOk ls) (.returned (.bool false))):=isB_no (fun h=>by have:=h.1;omega)
   go_enter func106,ntmps106;go_wp2;go_ret;exact ⟨HN.out,Below.refl _ _⟩
 · go_enter func106,ntmps106
   go_wp2_with fail
   go_loopw [3] (fun vi wr=>∃ k:Nat,k<=ls.length/\vi=.int .i64 k/\Below w.heap.size w wr/\Hid (∀ j,j<k->LkOk (ls.getD j l4z))) (fun vi _=>ls.length - (intOf vi).toNat)
   case atStart=>exact ⟨0,Nat.zero_le _,rfl,Below.refl _ _,fun j h=>absurd h (Nat.not_lt_zero _)⟩
   case round=>
    obtain ⟨k,hk,rfl,hb,hdone⟩:=hrel;by_cases hlt:k<ls.length
    · rcases HC.out with hss | ⟨ha,hbw,hcell⟩
      · rw [hss] at hlt;exact absurd hlt (Nat.not_lt_zero _)
      subst ha;obtain ⟨g0,g1,g2,g3⟩:=hcell k hlt;have g0:=(hb.cell (p:=⟨b,off+k*4,none⟩) hbw).trans g0;have g1:=(hb.cell (p:=⟨b,off+k*4+1,none⟩) hbw).trans g1;have g2:=(hb.cell (p:=⟨b,off+k*4+2,none⟩) hbw).trans g2;have g3:=(hb.cell (p:=⟨b,off+k*4+3,none⟩) hbw).trans g3;have hxs:=HS.out k;have HN:Hid (¬ LkOk (ls.getD k l4z)->IsB (LksOk ls) (.returned (.bool false))):=fun h=>isB_no fun d=>h (d.2 k hlt);have HY:Hid (LkOk (ls.getD k l4z)->∀ j,j<k+1->LkOk (ls.getD j l4z)):=fun h j hj=>by
       rcases Nat.lt_or_ge j k with h1 | h1
       · exact hdone.out j h1
       · obtain rfl:j=k:=om_
         exact h
      generalize ls.getD k l4z=x at*;clear hcell
      go_wp2_with fail
      refine (c141 x wr ⟨by have:=hxs.1;omega,by have:=hxs.2;omega⟩).mono ?_;rintro e w1 ⟨⟨r,rfl,hr⟩,hb1⟩;have hB1:Below w.heap.size w w1:=bT_ hb hb1;cases r
      · have hno:Hid (IsB (LksOk ls) (.returned (.bool false))):=HN.out fun h=>absurd (hr.2 h) Bool.false_ne_true
        clear hr;go_wp2;go_ret;exact ⟨hno.out,hB1⟩
      · have hyes:Hid (∀ j,j<k+1->LkOk (ls.getD j l4z)):=HY.out (hr.1 rfl)
        clear hr;go_wp2;go_roundw
        case rel=>exact ⟨k+1,om_,by go_num,hB1,hyes⟩
        case measure=>simp [intOf];omega
    · have hyes:Hid (IsB (LksOk ls) (.returned (.bool true))):=isB_yes ⟨om_,fun j hj=>hdone.out j om_⟩
      go_wp2;go_ret;exact ⟨hyes.out,hb⟩
theorem c90 (a:Option Addr) (cap:Nat) (ls:List L4) (w:World) (hl:ls.length<=1048576) (hs:∀ i,(ls.getD i l4z).le 1048576) (hat:LksAt w a ls):
 Calls prog 90 #[.slice a ls.length cap] w fun e w'=>IsB (LksOk ls) e/\Below w.heap.size w w':=by
 obtain ⟨b,off,hc⟩:=lks_some hat;have HC:Hid (ls=[]\/(a=some ⟨b,off,none⟩/\b<w.heap.size/\∀ i,i<ls.length->w.cell? ⟨b,off+i*4,none⟩=some (.bool (ls.getD i l4z).has)/\w.cell? ⟨b,off+i*4+1,none⟩=some (.string (ls.getD i l4z).nm)/\w.cell? ⟨b,off+i*4+2,none⟩=some (.int .i64 (ls.getD i l4z).cd)/\w.cell? ⟨b,off+i*4+3,none⟩=some (.string (ls.getD i l4z).tx))):=hc;have HS:Hid (∀ i,(ls.getD i l4z).le 1048576):=hs;clear hc hat hs;by_cases hbig:15<ls.length
 · have HN:Hid (IsB (LksOk ls) (.returned (.bool false))):=isB_no (fun h=>by have:=h.1;omega)
   go_enter func90,ntmps90;go_wp2;go_ret;exact ⟨HN.out,Below.refl _ _⟩
 · go_enter func90,ntmps90
   go_wp2_with fail
   go_loopw [10] (fun vi wr=>∃ k:Nat,k<=ls.length/\vi=.int .i64 k/\Below w.heap.size w wr/\Hid (∀ j,j<k->LkOk (ls.getD j l4z))) (fun vi _=>ls.length - (intOf vi).toNat)
   case atStart=>exact ⟨0,Nat.zero_le _,rfl,Below.refl _ _,fun j h=>absurd h (Nat.not_lt_zero _)⟩
   case round=>
    obtain ⟨k,hk,rfl,hb,hdone⟩:=hrel;by_cases hlt:k<ls.length
    · rcases HC.out with hss | ⟨ha,hbw,hcell⟩
      · rw [hss] at hlt;exact absurd hlt (Nat.not_lt_zero _)
      subst ha;obtain ⟨g0,g1,g2,g3⟩:=hcell k hlt;have g0:=(hb.cell (p:=⟨b,off+k*4,none⟩) hbw).trans g0;have g1:=(hb.cell (p:=⟨b,off+k*4+1,none⟩) hbw).trans g1;have g2:=(hb.cell (p:=⟨b,off+k*4+2,none⟩) hbw).trans g2;have g3:=(hb.cell (p:=⟨b,off+k*4+3,none⟩) hbw).trans g3;have hxs:=HS.out k;have HN:Hid (¬ LkOk (ls.getD k l4z)->IsB (LksOk ls) (.returned (.bool false))):=fun h=>isB_no fun d=>h (d.2 k hlt);have HY:Hid (LkOk (ls.getD k l4z)->∀ j,j<k+1->LkOk (ls.getD j l4z)):=fun h j hj=>by
       rcases Nat.lt_or_ge j k with h1 | h1
       · exact hdone.out j h1
       · obtain rfl:j=k:=om_
         exact h
      generalize ls.getD k l4z=x at*;clear hcell
      go_wp2_with fail
      have hBV:Below w.heap.size w (wr.alloc (.cells #[.bool x.has,.string x.nm,.int .i64 x.cd,.string x.tx] 74)):=hb.alloc hb.size _;generalize (wr.alloc (.cells #[.bool x.has,.string x.nm,.int .i64 x.cd,.string x.tx] 74))=V at*;refine (c128 x V ⟨by have:=hxs.1;omega,by have:=hxs.2;omega⟩).mono ?_;rintro e w1 ⟨⟨r,rfl,hr⟩,hb1⟩;have hB1:Below w.heap.size w w1:=bT_ hBV hb1;cases r
      · have hno:Hid (IsB (LksOk ls) (.returned (.bool false))):=HN.out fun h=>absurd (hr.2 h) Bool.false_ne_true
        clear hr;go_wp2;go_ret;exact ⟨hno.out,hB1⟩
      · have hyes:Hid (∀ j,j<k+1->LkOk (ls.getD j l4z)):=HY.out (hr.1 rfl)
        clear hr;go_wp2;go_roundw
        case rel=>exact ⟨k+1,om_,by go_num,hB1,hyes⟩
        case measure=>simp [intOf];omega
    · have hyes:Hid (IsB (LksOk ls) (.returned (.bool true))):=isB_yes ⟨om_,fun j hj=>hdone.out j om_⟩
      go_wp2;go_ret;exact ⟨hyes.out,hb⟩
def RanOk (m:M3) (ls:List L4) (c:Int) (t:ByteArray):Prop:=okM m=true/\LksOk ls/\vr c t.data.toList=true
def IsT (P:Prop) (l:List UInt8) (e:Ending):Prop:=∃ s,e=.returned (.string s)/\((P/\s=ofL l)\/(¬ P/\s=⟨#[]⟩))
theorem isT_no {P:Prop} {l:List UInt8} (h:¬ P):IsT P l (.returned (.string ⟨#[]⟩)):=⟨_,rfl,.inr ⟨h,rfl⟩⟩
theorem IsT.congr {P Q:Prop} {l k:List UInt8} {e:Ending} (h:IsT P l e) (hp:P↔Q) (hl:P->l=k):IsT Q k e:=by
 obtain ⟨s,rfl,h⟩:=h;refine ⟨s,rfl,?_⟩;rcases h with ⟨h1,h2⟩ | ⟨h1,h2⟩
 · exact .inl ⟨hp.1 h1,by rw [h2,hl h1]⟩
 · exact .inr ⟨fun h=>h1 (hp.2 h),h2⟩
theorem c63 (m:M3) (ls:List L4) (c:Int) (t:ByteArray) (ai:Option Addr) (ci:Nat) (w:World) (hm:m.le 1048576) (hl:ls.length<=1048576) (hs:∀ i,(ls.getD i l4z).le 1048576) (ht:t.size<=1048576) (hat:LksAt w ai ls):
 Calls prog 63 #[.agg #[.string m.nm,.string m.tl,.string m.ar],.slice ai ls.length ci,.agg #[.int .i64 c,.string t]] w fun e w'=>IsB (RanOk m ls c t) e/\Below w.heap.size w w':=by
 go_enter func63,ntmps63
 go_wp2_with fail
 refine (c105 m _ ⟨Nat.le_trans hm.1 om_,Nat.le_trans hm.2.1 om_,Nat.le_trans hm.2.2 om_⟩).mono ?_;rintro e w1 ⟨rfl,hb1⟩;have hx1:Below (w.heap.size+2) ((w.alloc (.cells #[.string m.nm,.string m.tl,.string m.ar] 42)).alloc (.cells #[.int .i64 c,.string t] 45)) w1:=by have h:=hb1;simp at h;exact h
 have bA:BlkAt ((w.alloc (.cells #[.string m.nm,.string m.tl,.string m.ar] 42)).alloc (.cells #[.int .i64 c,.string t] 45)) (w.heap.size+1) [.int .i64 c,.string t]:=by have h:=blk_new (w.alloc (.cells #[.string m.nm,.string m.tl,.string m.ar] 42)) [.int .i64 c,.string t] 45;simp at h;exact h
 have bA1:=bA.below hx1 om_;have hB1:Below w.heap.size w w1:=(bA_.alloc sm_ _).trans (hx1.mono om_);have hz1:w.heap.size+1<w1.heap.size:=by have h:=hx1.size;simp at h;omega
 clear hb1 bA;cases hn:okM m
 · have HN:Hid (IsB (RanOk m ls c t) (.returned (.bool false))):=isB_no (fun h=>by have h1:=h.1;rw [hn] at h1;cases h1)
   go_wp2;go_ret;exact ⟨HN.out,hB1⟩
 · go_wp2_with fail
   refine (c106 ai ci ls _ hl hs (lks_below hat hB1)).mono ?_;rintro e w2 ⟨⟨r,rfl,hr⟩,hb2⟩;have hB2:Below w.heap.size w w2:=bT_ hB1 hb2;have bA2:=bA1.below hb2 hz1;have k0:=bA2 0 _ rfl;have k1:=bA2 1 _ rfl;clear hb2;cases r
   · have HN:Hid (IsB (RanOk m ls c t) (.returned (.bool false))):=isB_no (fun h=>absurd (hr.2 h.2.1) dc_)
     clear hr;go_wp2;go_ret;exact ⟨HN.out,hB2⟩
   · have hl':=hr.1 rfl
     clear hr
     go_wp2_with fail
     refine (c107 c t _ om_).mono ?_;rintro e w3 ⟨rfl,hb3⟩;have hB3:Below w.heap.size w w3:=bT_ hB2 hb3;have HN:Hid (IsB (RanOk m ls c t) (.returned (.bool (vr c t.data.toList)))):=⟨_,rfl,⟨fun h=>⟨hn,hl',h⟩,fun h=>h.2.2⟩⟩;go_wp2;go_ret;exact ⟨HN.out,hB3⟩
theorem adr_neE {B i j:Nat} (h:i≠j):(⟨B,i,none⟩:Addr)≠⟨B,j,none⟩:=by intro e;injection e with _ e;exact h e
end Go.Proofs.YtlckdgjfniglfaaGreatDoor
namespace Go.Proofs
open Go.Shelf
def Tryz.lays169_ren:Go.Shelf.Ren:=⟨fun | 169=>122 | n=>n,fun | 70=>186 | 9=>9 | 0=>0 | 72=>188 | 37=>122 | 127=>214 | 3=>3 | 5=>5 | n=>n,fun | n=>n⟩
theorem Tryz.lays169:Go.Proofs.Lays.n169 prog Tryz.lays169_ren:={
 mixed:=kr_
 f169:=func122.trans (congrArg some kr_)
 t0:=underlying0
 a0:=Tryz.isAgg0
 z0:=Tryz.sizeOf0
 v0:=Tryz.zeroValue0
 t3:=underlying3
 a3:=Tryz.isAgg3
 z3:=Tryz.sizeOf3
 v3:=Tryz.zeroValue3
 t9:=underlying9
 a9:=Tryz.isAgg9
 z9:=Tryz.sizeOf9
 v9:=Tryz.zeroValue9
 t37:=underlying122
 a37:=Tryz.isAgg122
 z37:=Tryz.sizeOf122
 v37:=Tryz.zeroValue122
 t70:=underlying186
 a70:=Tryz.isAgg186
 z70:=Tryz.sizeOf186
 v70:=Tryz.zeroValue186
 t72:=underlying188
 a72:=Tryz.isAgg188
 z72:=Tryz.sizeOf188
 v72:=Tryz.zeroValue188
 t127:=underlying214
 a127:=Tryz.isAgg214
 z127:=Tryz.sizeOf214
 v127:=Tryz.zeroValue214 }
theorem Tryz.Builder_Extra_169:Builder.Extra prog Tryz.lays169_ren:={
 sizeBuilder:=kr_
 liesBuilder:=kr_
 t5:=underlying5
 a5:=Tryz.isAgg5
 z5:=Tryz.sizeOf5
 v5:=Tryz.zeroValue5
 infoByte:=kr_
 cellsByte:=kr_
 sizeByte:=kr_
 neB5:=by decide }
open Go.RowKit in
theorem Tryz.Builder_String_any (B b:Nat) (l:List UInt8) (w:World) (h:Lib.IsBuilder 188 5 B b (Lib.byteCells l) w) (hBw:B<=w.heap.size):
 Calls prog 122 #[.pointer (some ⟨b,0,none⟩)] w fun e w'=>e=.returned (.string ⟨l.toArray⟩)/\Below B w w':=Any.Builder_String_any Tryz.lays169 Tryz.Builder_Extra_169 B b l w h hBw
end Go.Proofs
namespace Go.Proofs.YtlckdgjfniglfaaGreatDoor
open Proofs.Tryz
open Go.RowKit
theorem info188:(prog.info? 188).map (fun i=>i.size)=some 2:=kr_
theorem info5:(prog.info? 5).map (fun i=>(i.zero,i.size,i.bytes))=some (some (.int .u8 0),1,1):=kr_
theorem lies188:liesAt prog prog.depth 188 (2 / prog.cellsOf 188) 0 188 1=true:=kr_
theorem check_used (b:Nat) (w:World) (h0:w.cell? ⟨b,0,none⟩=some (.pointer (some ⟨b,0,none⟩))):
 Calls prog 151 #[.pointer (some ⟨b,0,none⟩)] w fun e w'=>e=.returned (.tuple #[])/\w'=w:=by
 obtain ⟨j,hj,_⟩:=Option.map_eq_some_iff.1 info188;have kn:=Lib.run_neq_ptr_same (P:=prog) w ⟨b,0,none⟩ underlying186 hj;go_enter func151,ntmps151;go_wp2
 go_end0
 exact ⟨rfl,rfl⟩
theorem check_fresh (b:Nat) (w:World) (h0:w.cell? ⟨b,0,none⟩=some (.pointer none)) (hsh:w.shape? b=some (188,2)) (hfz:w.frozen? ⟨b,0,none⟩=false):
 Calls prog 151 #[.pointer (some ⟨b,0,none⟩)] w fun e w'=>e=.returned (.tuple #[])/\w'=w.setCell ⟨b,0,none⟩ (.pointer (some ⟨b,0,none⟩)):=by
 obtain ⟨j,hj,hjs⟩:=Option.map_eq_some_iff.1 info188;have k1:=Lib.run_to_unsafe (P:=prog) w ⟨b,0,none⟩ underlying186 underlying227 hj (by rw [hjs];decide) hsh (Nat.zero_lt_succ 1);have k3:=Lib.run_from_unsafe (P:=prog) w ⟨b,0,none⟩ underlying227 underlying186 hj hsh lies188;have k2:∀ x,Sem.run prog (callFunc 172 #[x]) w=.ok (.value x) w:=fun x=>by
  rw [run_callFunc_extern func172 kr_ kr_ kr_ (e:=Extern.AbiNoEscape.same) kr_];rw [Lib.run_noEscape];rfl
 go_enter func151,ntmps151;go_wp2
 go_end0
 exact ⟨rfl,rfl⟩
theorem c151 (B b:Nat) (bs:List Value) (w:World) (h:Lib.IsBuilder 188 5 B b bs w):
 Calls prog 151 #[.pointer (some ⟨b,0,none⟩)] w fun e w'=>e=.returned (.tuple #[])/\Lib.BuilderAt 188 5 B b (.pointer (some ⟨b,0,none⟩)) bs w'/\Below B w w'/\w'.heap.size=w.heap.size:=by
 rcases h with h | h
 · refine (check_fresh b w h.cell0 h.shape h.frozen0).mono ?_
   rintro e w' ⟨rfl,rfl⟩;exact ⟨rfl,h.used _,(Below.refl B w).setCell (p:=⟨b,0,none⟩) h.1 _,sm_⟩
 · refine (check_used b w h.cell0).mono ?_
   rintro e w' ⟨rfl,rfl⟩;exact ⟨rfl,h,Below.refl B _,rfl⟩
theorem blk_lt {w:World} {b:Nat} {o:Obj} (h:w.heap[b]?=some o):b<w.heap.size:=by
 rcases Nat.lt_or_ge b w.heap.size with h' | h'
 · exact h'
 · simp [Array.getElem?_eq_none h'] at h
theorem row_formE {w:World} {B:Nat} {e:TypeId} {v:Value} {n:Nat} {xs:List Value} (h:w.ownsRow B e 1 v n xs):∃ ao c,v=.slice ao n c:=by
 rcases h.2 with ⟨hv,h0⟩ | ⟨g,cap,cur,hv,_⟩
 · exact ⟨none,0,by rw [hv,h0]⟩
 · exact ⟨_,_,hv⟩
theorem app_keeps {w1 w2:World} {b:Nat} {o:Obj} {v:Value} (hbk:w1.heap[b]?=some o) (hne:v.ownBlock≠some b) (hg:w1.grownBy w2 v.ownBlock):w2.heap[b]?=some o:=by
 rw [hg.block b (blk_lt hbk) (fun e=>hne e.symm)];exact hbk
theorem c120 (B b:Nat) (bs:List Value) (c:Int) (w:World) (h:Lib.IsBuilder 188 5 B b bs w) (hlen:bs.length+1<=140737488355328) (hBw:B<=w.heap.size):
 Calls prog 120 #[.pointer (some ⟨b,0,none⟩),.int .u8 c] w fun e w'=>e=.returned .nilIface/\Lib.IsBuilder 188 5 B b (bs++[.int .u8 c]) w'/\Below B w w':=by
 obtain ⟨i0,hi,hz0,hz1,hz2⟩:=info_parts info5;have HI:Hid (Lib.IsBuilder 188 5 B b bs w):=h;clear h;go_enter func120,ntmps120
 go_wp2_with fail
 refine (c151 B b bs w HI.out).mono ?_;rintro e w1 ⟨rfl,h1,hb1,hs1⟩;obtain ⟨hB,v,hbk,hown,hne⟩:=h1;have hB1:B<=w1.heap.size:=om_;have HBK:Hid (w1.heap[b]?=some (.cells #[.pointer (some ⟨b,0,none⟩),v] 188 (0,0))):=hbk;have HNE:Hid (v.ownBlock≠some b):=hne;have c1:w1.cell? ⟨b,1,none⟩=some v:=by rw [Lib.cell_of_heap hbk];rfl
 clear hbk hne hs1
 go_wp2_with (at_builtin;refine wpList_append_own _ rfl _ _ 122 rfl B 5 i0 (.int .u8 0) 1 1 underlying122 hi hz0 hz1 hz2 rfl dc_ _ _ _ rfl (hown.alloc _) ⟨w1.heap.size,0,none⟩ 1 1 [.int .u8 c] rfl rfl (cell_one_new _ _ _) (by intro u hu;simp at hu;subst hu;rfl) (by unfold maxLen;omega) om_ so_ ?_;intro v' w2 hown' hgrow _;have HB2:Hid (w2.heap[b]?=some (.cells #[.pointer (some ⟨b,0,none⟩),v] 188 (0,0))):=app_keeps (v:=v) (by rw [Below.heap_alloc w1 _ b (blk_lt HBK.out)];exact HBK.out) HNE.out hgrow;have HG:Hid (Below B w w2):=(hb1.alloc hB1 _).grown hgrow so_ (fun k hk=>(hown.lt k hk).1);obtain ⟨ao,cp,rfl⟩:=row_formE hown';have d1:w2.cell? ⟨b,1,none⟩=some v:=(by rw [Lib.cell_of_heap HB2.out];rfl);have f1:w2.frozen? ⟨b,1,none⟩=false:=Lib.frozen_of_heap HB2.out 1;clear hgrow)
 go_ret;refine ⟨rfl,.inr ?_,?_⟩
 · exact Lib.BuilderAt.put (T:=188) (e:=5) hB HB2.out (bs':=bs++[.int .u8 c]) (by simpa using hown') dc_
 · exact HG.out.setCell (p:=⟨b,1,none⟩) hB _
theorem ownsRow_below {w w':World} {base:Nat} {e:TypeId} {size:Nat} {v:Value} {n:Nat} {xs:List Value} (h:w.ownsRow base e size v n xs) (hb:Below w.heap.size w w'):w'.ownsRow base e size v n xs:=by
 obtain ⟨h1,h2⟩:=h;refine ⟨h1,?_⟩;rcases h2 with h | ⟨g,cap,cur,hv,hg,hh,hr⟩
 · exact .inl h
 · exact .inr ⟨g,cap,cur,hv,hg,by rw [hb.block g (blk_lt hh)];exact hh,hr⟩
theorem c119 (c:UInt8) (w:World):
 Calls prog 119 #[.int .u8 c.toNat] w fun e w'=>e=.returned (.bool (plainB c))/\w'=w:=by
 go_enter func119,ntmps119;go_wp2
 all_goals go_ret
 all_goals refine ⟨ret_bool ?_,rfl⟩
 all_goals unfold plainB
 all_goals simp [*]
 all_goals first | omega | skip
 all_goals (try (simp only [bne]))
end Go.Proofs.YtlckdgjfniglfaaGreatDoor
