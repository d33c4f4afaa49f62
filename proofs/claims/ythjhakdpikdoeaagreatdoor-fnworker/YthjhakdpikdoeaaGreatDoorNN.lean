import Derived.Test.YthjhakdpikdoeaaGreatDoorNM
set_option linter.unusedVariables false
set_option maxHeartbeats 8000000
set_option maxRecDepth 100000
namespace Go.Proofs.YthjhakdpikdoeaaGreatDoor
open Proofs.Tryz
open Go.RowKit
structure U8 (K q P:Nat) (w:World) (R E X Y:Nat) (no:Int) (up has:Bool) (x:M.G16) (b:Option Addr) (n:Nat) (y:M.G16) (c:Option Addr) (k:Nat) (u:World):Prop where
 t:T8 K q P w R X Y no up has x b n y c k u
 e:Cl u E 31 (mc M.g16z none 0)
 nE:E≠q
 EY:E≠Y
section
variable {K K' q P P':Nat} {w u u':World} {R E X Y:Nat} {no no':Int} {up has up' has':Bool} {x x' y y':M.G16} {b b' c c':Option Addr} {n n' k k':Nat}
theorem T8.mono (h:T8 K q P w R X Y no up has x b n y c k u) (hK:K<=K'):T8 K' q P w R X Y no up has x b n y c k u:=⟨h.rd,h.bu,h.qw,h.cR,h.cX,h.mx.mono hK,h.cM,h.mm.mono hK,h.nR,h.RX,h.wX,h.wM⟩
theorem U8.mono (h:U8 K q P w R E X Y no up has x b n y c k u) (hK:K<=K'):U8 K' q P w R E X Y no up has x b n y c k u:=⟨h.t.mono hK,h.e,h.nE,h.EY⟩
theorem U8.call (h:U8 K q P w R E X Y no up has x b n y c k u) (hr:RdTo u' q P') (hb:But q u u'):U8 K q P' w R E X Y no up has x b n y c k u':=⟨h.t.call hr hb,(hb.block _ h.e.lt h.nE).trans h.e,h.nE,h.EY⟩
theorem U8.rdm (h:U8 K q P w R E X Y no up has x b n y c k u) (hp:P<=P'):U8 K q P' w R E X Y no up has x b n y c k u:=h.call (h.t.rd.mono hp) (But.refl _ _)
theorem U8.onX (h:U8 K q P w R E X Y no up has x b n y c k u) (ho:OnB X u u') (hX:Cl u' X 33 (wk no' up' has' (mc x' b' n'))) (hm:MsI K u' x' b' n'):U8 K q P w R E X Y no' up' has' x' b' n' y c k u':=⟨h.t.onX ho hX hm,h.e.on ho (h.e.ne h.t.cX dc_),h.nE,h.EY⟩
theorem U8.onM (h:U8 K q P w R E X Y no up has x b n y c k u) (ho:OnB Y u u') (hM:Cl u' Y 31 (mc y' c' k')) (hm:MsI K u' y' c' k'):U8 K q P w R E X Y no up has x b n y' c' k' u':=⟨h.t.onM ho hM hm,h.e.on ho h.EY,h.nE,h.EY⟩
theorem U8.setM (h:U8 K q P w R E X Y no up has x b n y c k u) (j:Nat) (v:Value) (e:(mc y c k).set j v=mc y' c k) (hle:y'.le K) (hls:y'.ls=y.ls):U8 K q P w R E X Y no up has x b n y' c k (u.setCell ⟨Y,j,none⟩ v):=⟨h.t.setM j v e hle hls,h.e.on (on_set _ _ _ _) h.EY,h.nE,h.EY⟩
end
theorem results_bb {P:Program} {fn:Func} {p q:Tmp} {ty tz:TypeId} (h:fn.results=#[.cell p ty,.cell q tz]) (tmps:Array Value) (w:World) (B C:Nat) (cs ds:List Value) (d e:TypeDesc) (hp:tmps.getD p undef=.pointer (some ⟨B,0,none⟩)) (hc:M.BlkAt w B cs) (hu:P.underlying ty=some d) (hd:(match d with | .struct _ | .array _ _=>true | _=>false)=true) (hi:(P.info? ty).map (·.size)=some cs.length) (hq:tmps.getD q undef=.pointer (some ⟨C,0,none⟩)) (hc2:M.BlkAt w C ds) (hu2:P.underlying tz=some e) (hd2:(match e with | .struct _ | .array _ _=>true | _=>false)=true) (hi2:(P.info? tz).map (·.size)=some ds.length):
 (results fn tmps).run P w=.ok (.tuple #[.agg cs.toArray,.agg ds.toArray]) w:=by
 have hp':tmps[p]?.getD undef=.pointer (some ⟨B,0,none⟩):=by simpa using hp
 have hq':tmps[q]?.getD undef=.pointer (some ⟨C,0,none⟩):=by simpa using hq
 simp [results,h,hp',hq',asAddr,M.run_loadVar_blk w B ty cs d hc hu hd hi,M.run_loadVar_blk w C tz ds e hc2 hu2 hd2 hi2]
def Is4 (w:World) (e:Ending) (w':World):Prop:=(∃ no up has x b n y c k,e=.returned (.tuple #[.agg (wk no up has (mc x b n)).toArray,.agg (mc y c k).toArray])/\MsI 1000000 w' x b n/\MsI 1000000 w' y c k)/\Below w.heap.size w w'
theorem c4 (a:Option Addr) (L cap:Nat) (w:World) (hL:L<=1048576) (hcap:L<=cap) (h:BytesAt w a L):
 Calls prog 4 #[.slice a L cap] w (Is4 w):=by
 have HB:=hdI h;clear h;go_enter func4,ntmps4
 go_wp2_with fail
 obtain ⟨y0,hy⟩:∃ y:World,y=(w.alloc (.cells z19.toArray 33)).alloc (.cells (mc M.g16z none 0).toArray 31):=⟨_,rfl⟩;have hy':=hy;simp only [z19,wk,mc,M.g16z,M.t6z,m3z,List.length_nil] at hy';rw [<- hy'];have b0:Below w.heap.size w y0:=by rw [hy];exact by2 _ _ _
 have hz0:y0.heap.size=w.heap.size+2:=by rw [hy];simp
 have R0:Cl y0 w.heap.size 33 z19:=by rw [hy];exact cl_old (cl_new w _ 33) _
 have E0:Cl y0 (w.heap.size+1) 31 (mc M.g16z none 0):=by rw [hy];exact cl_at sm_
 have BY:BytesAt y0 a L:=by
  rcases HB.out with h | ⟨g,off,ha,hc⟩
  · exact .inl h
  refine .inr ⟨g,off,ha,fun i hi=>?_⟩;obtain ⟨z,hz,hcz⟩:=hc i hi;exact ⟨z,hz,by rw [b0.cell (cell_block hcz)];exact hcz⟩
 clear hy hy' HB;refine (c14 a L cap y0 hL hcap BY).mono ?_;rintro e y1 ⟨rfl,hr,hb1,hz1⟩;have R1:=hdI (R0.below hb1 R0.lt);have E1:=hdI (E0.below hb1 E0.lt);have B1:=hdI (bT b0 hb1);have H1:Hid (RdTo y1 y0.heap.size 0):=⟨0,Nat.le_refl _,hr⟩;clear R0 E0 b0 hr hb1 BY;have hqz:y0.heap.size<y1.heap.size:=om_;have hqw:w.heap.size+2<=y0.heap.size:=om_;clear hz0 hz1;generalize y0.heap.size=q at*
 go_wp2_with fail
 refine (c15 q 0 y1 om_ H1.out).mono ?_;rintro e y2 ⟨⟨no,up,has,x,b,n,rfl,hm⟩,hr,hb⟩;have R2:Hid (Cl y2 w.heap.size 33 z19):=(hb.block _ R1.out.lt om_).trans R1.out;have E2:Hid (Cl y2 (w.heap.size+1) 31 (mc M.g16z none 0)):=(hb.block _ E1.out.lt om_).trans E1.out;have B2:=hdI hb;have H2:=hdI hr;have M2:=hdI hm;clear R1 E1 H1 hm hr hb;have hb3:Below y2.heap.size y2 (y2.alloc (.cells #[.int .i64 0,.bool false,.bool false,.int .i64 0,.int .i64 0,.int .i64 0,.int .i64 0,.int .i64 0,.string ⟨#[]⟩,.string ⟨#[]⟩,.string ⟨#[]⟩,.slice none 0 0,.int .i64 0,.bool false,.int .i64 0,.string ⟨#[]⟩,.bool false,.string ⟨#[]⟩,.int .i64 0] 33)):=bA;have CZ:Hid (Cl (y2.alloc (.cells #[.int .i64 0,.bool false,.bool false,.int .i64 0,.int .i64 0,.int .i64 0,.int .i64 0,.int .i64 0,.string ⟨#[]⟩,.string ⟨#[]⟩,.string ⟨#[]⟩,.slice none 0 0,.int .i64 0,.bool false,.int .i64 0,.string ⟨#[]⟩,.bool false,.string ⟨#[]⟩,.int .i64 0] 33)) y2.heap.size 33 z19):=cl_new y2 z19 33;generalize hV:wk no up has (mc x b n)=V;have VL:Hid (V.length=19):=by show _=_;rw [<- hV];rfl
 have V1:Hid (∀ v∈V,v.oneCell'=true):=by show ∀ v∈V,_;rw [<- hV];exact wk_one (mc_one _ _ _)
 have HV:=hdI hV;clear hV
 go_wp2_with (refine wp_stk rfl (.tmp 5) (.tmp 11) rfl (B:=y2.heap.size) rfl (t:=33) (vs:=V) (xs:=z19) rfl (by with_reducible exact CZ.out) VL.out rfl V1.out rfl ?_;intro y3 C3 o3;refine Hid.out ?_)
 unfold Hid;rw [<- HV.out] at C3;clear VL V1 HV;have hb4:Below y2.heap.size y2 y3:=hb3.trans (o3.below lr_);have R3:=hdI (R2.out.below hb4 R2.out.lt);have E3:=hdI (E2.out.below hb4 E2.out.lt);have H3:=hdI (H2.out.later hb4);have B3:=hdI (B2.out.later hb4);have M3:=hdI (M2.out.below hb4);have X3:=hdI C3;have hz2:=B2.out.size;clear R2 E2 H2 B2 M2 C3 o3 hb3 hb4 CZ;generalize y2.heap.size=X at*
 go_wp2_with fail
 refine (c17 q _ y3 om_ H3.out).mono ?_;rintro e y4 ⟨⟨tv,rfl,htr,htk⟩,hr,hb⟩;have R4:Hid (Cl y4 w.heap.size 33 z19):=(hb.block _ R3.out.lt om_).trans R3.out;have E4:Hid (Cl y4 (w.heap.size+1) 31 (mc M.g16z none 0)):=(hb.block _ E3.out.lt om_).trans E3.out;have X4:Hid (Cl y4 X 33 (wk no up has (mc x b n))):=(hb.block _ X3.out.lt om_).trans X3.out;have M4:=hdI (M3.out.but H3.out hb);have B4:=hdI (B3.out.trans hb);have H4:=hdI hr;have T4:=hdI htr;obtain ⟨ta,tc,tf,rfl,_⟩:=htr;clear R3 E3 X3 M3 B3 H3 hr hb htk
 go_wp2_with fail
 refine (c16 q _ _ y4 om_ H4.out T4.out).mono ?_;rintro e y6 ⟨⟨x6,b6,n6,rfl,hm6⟩,hr,hb⟩;have R6:Hid (Cl y6 w.heap.size 33 z19):=(hb.block _ R4.out.lt om_).trans R4.out;have E6:Hid (Cl y6 (w.heap.size+1) 31 (mc M.g16z none 0)):=(hb.block _ E4.out.lt om_).trans E4.out;have X6:Hid (Cl y6 X 33 (wk no up has (mc x b n))):=(hb.block _ X4.out.lt om_).trans X4.out;have N6:=hdI (M4.out.but H4.out hb);have B6:=hdI (B4.out.trans hb);have H6:=hdI hr;have M6:=hdI hm6;clear R4 E4 X4 M4 B4 H4 T4 hr hb hm6;have hb7:Below y6.heap.size y6 (y6.alloc (.cells #[.int .i64 0,.int .i64 0,.int .i64 0,.int .i64 0,.int .i64 0,.string ⟨#[]⟩,.string ⟨#[]⟩,.string ⟨#[]⟩,.slice none 0 0,.int .i64 0,.bool false,.int .i64 0,.string ⟨#[]⟩,.bool false,.string ⟨#[]⟩,.int .i64 0] 31)):=bA;have CZ:Hid (Cl (y6.alloc (.cells #[.int .i64 0,.int .i64 0,.int .i64 0,.int .i64 0,.int .i64 0,.string ⟨#[]⟩,.string ⟨#[]⟩,.string ⟨#[]⟩,.slice none 0 0,.int .i64 0,.bool false,.int .i64 0,.string ⟨#[]⟩,.bool false,.string ⟨#[]⟩,.int .i64 0] 31)) y6.heap.size 31 ([]++mc M.g16z none 0)):=cl_new y6 (mc M.g16z none 0) 31
 go_wp2_with (refine wp_stm rfl (.tmp 6) (.tmp 15) rfl (B:=y6.heap.size) (j:=0) rfl (t:=31) (pre:=[]) (vs:=mc x6 b6 n6) (xs:=mc M.g16z none 0) rfl (by with_reducible exact CZ.out) rfl rfl rfl (mc_one _ _ _) rfl ?_;intro y7 C7 o7;refine Hid.out ?_)
 unfold Hid;have hb8:Below y6.heap.size y6 y7:=hb7.trans (o7.below lr_);have hz6:=B6.out.size;have hX6:=X6.out.lt;have T7:Hid (U8 999999 q 15600 y1 w.heap.size (w.heap.size+1) X y6.heap.size no up has x b n x6 b6 n6 y7):=⟨⟨(H6.out.later hb8).mono om_,B6.out.later hb8,hqz,R6.out.below hb8 R6.out.lt,X6.out.below hb8 X6.out.lt,N6.out.below hb8,C7,M6.out.below hb8,om_,om_,om_,om_⟩,E6.out.below hb8 E6.out.lt,om_,by have:=E6.out.lt;omega⟩;clear C7 o7 hb8 hb7 CZ R6 E6 X6 N6 B6 H6 M6;generalize y6.heap.size=Y at*
 go_wp2_with fail
 go_loopw [7] (fun i wr=>∃ (k:Nat) (y:M.G16) (c:Option Addr) (m:Nat),i=.int .i64 k/\k<=4/\Hid (U8 999999 q (14000+1600*(k+1)) y1 w.heap.size (w.heap.size+1) X Y no up has x b n y c m wr)) (fun i _=>4 - (intOf i).toNat)
 case atStart=>exact ⟨0,_,_,_,rfl,om_,T7.out.rdm om_⟩
 clear T7;obtain ⟨k,y,c,m,rfl,hk,T7⟩:=hrel;have c0:wr.cell? ⟨Y,0,none⟩=some (.int .i64 y.kd):=T7.out.t.cM.cell 0;have mark:True:=trivial;by_cases hkd:y.kd=1
 case' neg=>
  have hkb:(y.kd==1)=false:=by simpa using hkd
  have hkn:(y.kd !=1)=true:=by simpa using hkd
  by_cases hk4:k<4
  · go_wp2_with fail
    refine (c17 q _ wr om_ T7.out.t.rd).mono ?_;rintro e y8 ⟨⟨tv,rfl,htr,htk⟩,hr,hb⟩;have T9:=hdI (T7.out.call hr hb);have T5:=hdI htr;obtain ⟨ta,tc,tf,rfl,_⟩:=htr;clear T7 hr hb htk c0
    go_wp2_with fail
    refine (c16 q _ _ y8 om_ T9.out.t.rd T5.out).mono ?_;rintro e y9 ⟨⟨x9,b9,n9,rfl,hm9⟩,hr,hb⟩;have TA:=hdI (T9.out.call hr hb);have M9:=hdI hm9;clear T9 T5 hr hb hm9;have CM:Hid (Cl y9 Y 31 ([]++mc y c m)):=TA.out.t.cM
    go_wp2_with (refine wp_stm rfl (.tmp 6) (.tmp 28) rfl (B:=Y) (j:=0) rfl (t:=31) (pre:=[]) (vs:=mc x9 b9 n9) (xs:=mc y c m) rfl (by with_reducible exact CM.out) rfl rfl rfl (mc_one _ _ _) rfl ?_;intro y10 C10 o10;have TB:=hdI (TA.out.onM o10 C10 (M9.out.on TA.out.t.cM (fun b e=>by cases e) o10));clear C10 o10)
    go_roundw
    case rel=>exact ⟨k+1,_,_,_,by go_num,om_,TB.out.rdm om_⟩
    case measure=>simp [intOf];omega
  go_wp2_with fail
  have U9:Hid (U8 999999 q 23000 y1 w.heap.size (w.heap.size+1) X Y no up has x b n y c m wr):=T7.out.rdm om_;clear T7 c0 hkd hkb hkn;generalize wr=y9 at*;revert mark
 case' pos=>
  rw [hkd] at c0;have x0:wr.cell? ⟨X,0,none⟩=some (.int .i64 no):=T7.out.t.cX.cell 0;clear hkd;by_cases hk4:k<4
  all_goals
   go_wp2_with fail
   refine (pickT wr q _ 5 om_ om_ om_ T7.out.t.rd).mono ?_;rintro e y8 ⟨⟨r8,rfl,r80,r81⟩,hr,ho⟩;have T9:=hdI (T7.out.call hr ho.but);clear T7 hr ho c0 x0;by_cases hr8:0<r8
   all_goals
    first
    | (have hr9:0<r8:=hr8
       have x0:y8.cell? ⟨X,0,none⟩=some (.int .i64 no):=T9.out.t.cX.cell 0;have c1:y8.cell? ⟨Y,1,none⟩=some (.int .i64 y.to):=T9.out.t.cM.cell 1;have g1:=T9.out.t.cM.opn 1;have U9:Hid (U8 999999 q 23000 y1 w.heap.size (w.heap.size+1) X Y no up has x b n _ c m _):=(T9.out.setM (y':={ y with to:=no }) 1 (.int .i64 no) rfl T9.out.t.mm.le rfl).rdm om_
       go_wp2_with fail
       clear T9 x0 c1 g1;generalize y8.setCell ⟨Y,1,none⟩ (.int .i64 no)=y9 at U9 ⊢;generalize ({ y with to:=no }:M.G16)=y at U9;revert mark)
    | (go_wp2_with fail
       have U9:Hid (U8 999999 q 23000 y1 w.heap.size (w.heap.size+1) X Y no up has x b n y c m y8):=T9.out.rdm om_;clear T9;generalize y8=y9 at*;revert mark)
 all_goals
  intro _;have mark2:True:=trivial;refine (pickT y9 q _ 10 om_ om_ om_ U9.out.t.rd).mono ?_;rintro e y10 ⟨⟨ra,rfl,ra0,ra1⟩,hr,ho⟩;have UA:=hdI (U9.out.call hr ho.but);clear U9 hr ho;rcases (by omega:ra=0\/ra=1\/2<=ra) with h | h | h
  all_goals
   first
   | (have h0:ra=0:=h
      subst h0;have CM:=UA.out.t.cM;generalize hV:mc y c m=V at CM;have CM:Hid (Cl y10 Y 31 ([]++V)):=CM;have VL:Hid (V.length=16):=by show _=_;rw [<- hV];rfl
      have HV:=hdI hV;clear hV
      go_wp2_with (refine wp_ldm rfl (.tmp 6) rfl (B:=Y) (j:=0) rfl (pre:=[]) (t:=31) (vs:=V) (by with_reducible exact CM.out) VL.out rfl ?_)
      rw [<- HV.out];clear CM VL HV;refine (c19 q _ y c m y10 om_ UA.out.t.rd UA.out.t.mm).mono ?_;rintro e y11 ⟨⟨x11,b11,n11,rfl,hm11⟩,hr,hb⟩;have UB:=hdI ((UA.out.mono (K':=1000000) om_).call hr hb);have M11:=hdI hm11;clear UA hr hb hm11;have CM:Hid (Cl y11 Y 31 ([]++mc y c m)):=UB.out.t.cM
      go_wp2_with (refine wp_stm rfl (.tmp 6) (.tmp 46) rfl (B:=Y) (j:=0) rfl (t:=31) (pre:=[]) (vs:=mc x11 b11 n11) (xs:=mc y c m) rfl (by with_reducible exact CM.out) rfl rfl rfl (mc_one _ _ _) rfl ?_;intro y12 C12 o12;refine Hid.out ?_)
      unfold Hid;have UC:Hid (U8 1000000 q 24000 y1 w.heap.size (w.heap.size+1) X Y no up has x b n x11 b11 n11 y12):=(UB.out.onM o12 C12 (M11.out.on UB.out.t.cM (fun b e=>by cases e) o12)).rdm om_;clear CM C12 o12 UB M11;generalize x11=y at*
      go_wp2_with fail
      revert mark2)
   | (have h1:ra=1:=h
      subst h1;have CX:=UA.out.t.cX;generalize hV:wk no up has (mc x b n)=V at CX;have CX:=hdI CX;have VL:Hid (V.length=19):=by show _=_;rw [<- hV];rfl
      have HV:=hdI hV;clear hV
      go_wp2_with (refine wp_ldk rfl (.tmp 5) rfl (B:=X) rfl (t:=33) (vs:=V) (by with_reducible exact CX.out) VL.out ?_)
      rw [<- HV.out];clear CX VL HV;refine (c20 q _ no up has x b n y10 om_ UA.out.t.rd UA.out.t.mx).mono ?_;rintro e y11 ⟨⟨no2,up2,has2,x11,b11,n11,rfl,hm11⟩,hr,hb⟩;have UB:=hdI ((UA.out.mono (K':=1000000) om_).call hr hb);have M11:=hdI hm11;clear UA hr hb hm11;have CX:Hid (Cl y11 X 33 (wk no up has (mc x b n))):=UB.out.t.cX;generalize hV:wk no2 up2 has2 (mc x11 b11 n11)=V;have VL:Hid (V.length=19):=by show _=_;rw [<- hV];rfl
      have V1:Hid (∀ v∈V,v.oneCell'=true):=by show ∀ v∈V,_;rw [<- hV];exact wk_one (mc_one _ _ _)
      have HV:=hdI hV;clear hV
      go_wp2_with (refine wp_stk rfl (.tmp 5) (.tmp 51) rfl (B:=X) rfl (t:=33) (vs:=V) (xs:=wk no up has (mc x b n)) rfl (by with_reducible exact CX.out) VL.out rfl V1.out rfl ?_;intro y12 C12 o12;refine Hid.out ?_)
      unfold Hid;rw [<- HV.out] at C12;have UC:Hid (U8 1000000 q 24000 y1 w.heap.size (w.heap.size+1) X Y no2 up2 has2 x11 b11 n11 y c m y12):=(UB.out.onX o12 C12 (M11.out.on UB.out.t.cX (fun b e=>by cases e) o12)).rdm om_;clear CX C12 o12 UB M11 VL V1 HV
      go_wp2_with fail
      revert mark2)
   | (have hra0:(ra==0)=false:=so_
      have hra1:(ra==1)=false:=so_
      go_wp2_with fail
      have UC:Hid (U8 1000000 q 24000 y1 w.heap.size (w.heap.size+1) X Y no up has x b n y c m y10):=(UA.out.mono (K':=1000000) om_).rdm om_;clear UA;generalize y10=y12 at*;revert mark2)
  all_goals
   intro _;have hbd:Below y12.heap.size y12 y12.drew:=(Below.refl _ _).drew;have UD:=hdI (UC.out.call (UC.out.t.rd.later hbd) (But.of_below hbd));have CX:=UD.out.t.cX;have CM:=UD.out.t.cM;generalize hA:wk _ _ _ _=VA at CX;generalize hB:mc _ _ _=VB at CM;have LA:Hid (VA.length=19):=by show _=_;rw [<- hA];rfl
   have LB:Hid (VB.length=16):=by show _=_;rw [<- hB];rfl
   have A1:Hid (∀ v∈VA,v.oneCell'=true):=by show ∀ v∈VA,_;rw [<- hA];exact wk_one (mc_one _ _ _)
   have B2:Hid (∀ v∈VB,v.oneCell'=true):=by show ∀ v∈VB,_;rw [<- hB];exact mc_one _ _ _
   have HA:=hdI hA;have HB:=hdI hB;clear hA hB UC;refine wp_region_held_drew (S:=fun u=>Cl u X 33 VA/\Cl u Y 31 VB) kr_ ⟨CX,CM⟩ fun hH=>?_;generalize y12.drew=y13 at UD CX CM hH ⊢;have nRX:=UD.out.t.RX;have nRY:=UD.out.t.cR.ne UD.out.t.cM dc_;have nEX:=UD.out.e.ne UD.out.t.cX dc_;have nRE:=UD.out.t.cR.ne UD.out.e dc_;have nEY:=UD.out.EY;clear CX CM hbd;refine tq 0 hH ?_ (v:=.agg VA.toArray) (hv:=fun u hu=>ex_ldN 33 (.tmp 5) rfl rfl (fun i v e=>by rw [Nat.zero_add];exact (hu.1.cell i).trans e) underlying33 rfl (by rw [LA.out];kernel_rfl))
   try simp only [qq]
   refine tq 1 hH ?_ (v:=.agg VB.toArray) (hv:=fun u hu=>ex_ldN 31 (.tmp 6) rfl rfl (fun i v e=>by rw [Nat.zero_add];exact (hu.2.cell i).trans e) underlying31 rfl (by rw [LB.out];kernel_rfl))
   try simp only [qq]
   refine rq 2 fun K hK=>?_;refine st_stN rfl 33 (.tmp 2) (.tmp 52) rfl (B:=w.heap.size) (j:=0) (t:=33) (xs:=z19) (vs:=VA) rfl rfl UD.out.t.cR (by rw [LA.out];decide) A1.out (by rw [LA.out];kernel_rfl) fun y14 k1 k2=>?_;rw [putL_all (xs:=z19) (vs:=VA) (by rw [LA.out];rfl)] at k1;refine hK.out _ _ ⟨hH.1.on k2 (Ne.symm nRX),hH.2.on k2 (Ne.symm nRY)⟩ fun hH2=>?_;clear hK K
   try simp only [qq]
   refine rq 3 fun K hK=>?_;refine st_stN rfl 31 (.tmp 3) (.tmp 53) rfl (B:=w.heap.size+1) (j:=0) (t:=31) (xs:=mc M.g16z none 0) (vs:=VB) rfl rfl (UD.out.e.on k2 (Ne.symm nRE)) (by rw [LB.out];decide) B2.out (by rw [LB.out];kernel_rfl) fun y15 k3 k4=>?_;rw [putL_all (xs:=mc M.g16z none 0) (vs:=VB) (by rw [LB.out];rfl)] at k3;refine hK.out _ _ ⟨hH2.1.on k4 (Ne.symm nEX),hH2.2.on k4 (Ne.symm nEY)⟩ fun hH3=>?_;clear hK K
   try simp only [qq]
   refine wpAnyH_done kr_ ?_ _;have k5:=k1.on k4 nRE;have MX:=((UD.out.t.mx.on UD.out.t.cR (fun b e=>by cases e) k2).on (UD.out.e.on k2 (Ne.symm nRE)) (fun b e=>by cases e) k4);have MY:=((UD.out.t.mm.on UD.out.t.cR (fun b e=>by cases e) k2).on (UD.out.e.on k2 (Ne.symm nRE)) (fun b e=>by cases e) k4);have BW:Below w.heap.size w y15:=((B1.out.trans (UD.out.t.bu.below om_ B1.out.size)).trans (k2.below lr_)).trans (k4.below om_);clear hH hH2 hH3;go_wp2;exact bodyPost_ret (v:=.tuple #[.agg VA.toArray,.agg VB.toArray]) (results_bb rfl _ _ w.heap.size (w.heap.size+1) VA VB _ _ rfl k5.blk underlying33 rfl (by rw [LA.out];kernel_rfl) rfl k3.blk underlying31 rfl (by rw [LB.out];kernel_rfl)) rfl ⟨⟨_,_,_,_,_,_,_,_,_,by rw [HA.out,HB.out],MX,MY⟩,BW⟩
end Go.Proofs.YthjhakdpikdoeaaGreatDoor
